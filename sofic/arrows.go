package sofic

import (
	"math/bits"
)

const (
	maxNodes = 5
	// nowhere stands in a table for the node to which an arrow goes, if there is not one.
	nowhere = -1
)

// nodes is a set of nodes: bit i is for node i.
type nodes uint

// at is the set of one node, or of none if that is nowhere.
func at(node int) nodes {
	if node == nowhere {
		return 0
	}
	return 1 << node
}

// allOf is the set of all of k nodes.
func allOf(k int) nodes {
	return 1<<k - 1
}

// has is whether the node is in the set.
func (set nodes) has(node int) bool {
	return set&at(node) != 0
}

// size is how many nodes are in the set.
func (set nodes) size() int {
	return bits.OnesCount(uint(set))
}

// pair is two nodes, either of which may be nowhere.
type pair struct {
	one, other int
}

// table is where ways with the letters of a word lead, by the node at which they begin. It is an array so that words with the same table can be counted together.
type table [maxNodes]int

// tableOf is the table of the empty word for k nodes.
func tableOf(k int) table {
	var t table
	for node := range t {
		t[node] = nowhere
		if node < k {
			t[node] = node
		}
	}
	return t
}

// from is where the table leads from a node, which may be nowhere.
func (t table) from(node int) int {
	if node == nowhere {
		return nowhere
	}
	return t[node]
}

// image is the set of nodes to which the table leads from those of a set.
func (t table) image(set nodes) nodes {
	var image nodes
	for node, to := range t {
		if set.has(node) {
			image |= at(to)
		}
	}
	return image
}

// arrows is a net of letters: its number of nodes, and the table of each letter.
type arrows struct {
	k       int
	letters [2]table
}

// withoutArrows is k nodes with no arrow between them.
func withoutArrows(k int) arrows {
	return arrows{k, [2]table{tableOf(0), tableOf(0)}}
}

// isNet is whether the rows are those of a net of letters.
func isNet(rows [][2]int) bool {
	k := len(rows)
	if k < 1 || k > maxNodes {
		return false
	}
	var reached nodes
	for _, row := range rows {
		if row == [2]int{nowhere, nowhere} {
			return false
		}
		for _, to := range row {
			if to != nowhere && !isNode(rows, to) {
				return false
			}
			reached |= at(to)
		}
	}
	return reached == allOf(k)
}

// isNode is whether the number is that of a node of the net.
func isNode(net [][2]int, number int) bool {
	return number >= 0 && number < len(net)
}

// arrowsOf is the arrows of a net.
func arrowsOf(net [][2]int) arrows {
	n := withoutArrows(len(net))
	for node, row := range net {
		for i, to := range row {
			n.letters[i][node] = to
		}
	}
	return n
}

// rows is the net as the calls return it.
func (n arrows) rows() [][2]int {
	rows := make([][2]int, n.k)
	for node := range rows {
		for i, t := range n.letters {
			rows[node][i] = t[node]
		}
	}
	return rows
}

// by is the table of a letter.
func (n arrows) by(letter rune) table {
	return n.letters[letter-firstLetter]
}

// step is the nodes to which arrows with the letter go from those of a set.
func (n arrows) step(set nodes, letter rune) nodes {
	return n.by(letter).image(set)
}

// stepOfPair is where arrows with the letter go from both nodes of a pair.
func (n arrows) stepOfPair(p pair, letter rune) pair {
	t := n.by(letter)
	return pair{t.from(p.one), t.from(p.other)}
}

// stepOfTable is the table of a word and the letter behind it.
func (n arrows) stepOfTable(word table, letter rune) table {
	t := n.by(letter)
	for node, to := range word {
		word[node] = t.from(to)
	}
	return word
}

// hangs is whether the net hangs together.
func (n arrows) hangs() bool {
	for node := range n.k {
		if n.reached(node) != allOf(n.k) {
			return false
		}
	}
	return true
}

// reached is the nodes to which ways of one or more arrows go from a node.
func (n arrows) reached(node int) nodes {
	var reached nodes
	// Each time the ways may have one arrow more, and none that are needed have more than there are nodes.
	for range n.k {
		from := reached | at(node)
		reached = n.letters[0].image(from) | n.letters[1].image(from)
	}
	return reached
}
