package sofic_test

import (
	"math"
	"math/bits"
	"slices"
	"strings"
	"testing"

	"girouette/api"
	"girouette/sofic"
)

var (
	golden = [][2]int{{0, 1}, {0, -1}}
	even   = [][2]int{{0, 1}, {-1, 0}}
	// apart is a net that does not hang together, and that no word leads back to all of.
	apart = [][2]int{{0, -1}, {-1, 1}}
	// far is numbers that are no nodes and no numbers of letters.
	far = []int{math.MinInt, math.MinInt + 1, -1000, -2, -1, 13, 14, 1000, 1 << 32, math.MaxInt - 1, math.MaxInt}
	// noNets is tables that are no nets.
	noNets = [][][2]int{
		nil, {}, {{-1, -1}}, {{0, 1}}, {{1, 0}}, {{0, -2}}, {{-2, 0}}, {{1, 1}}, {{math.MaxInt, 0}}, {{0, math.MinInt}}, {{1 << 32, 0}},
		{{0, 0}, {0, 0}}, {{1, 1}, {1, 1}}, {{0, 1}, {-1, -1}}, {{-1, -1}, {0, 1}}, {{0, 1}, {0, 2}}, {{1, -1}, {1, -1}}, {{0, 1}, {0, -2}},
		{{1, 2}, {1, 2}, {1, -1}}, {{0, 1}, {2, 2}, {-1, -1}}, {{0, 1}, {1, 3}, {2, 0}}, {{1, 2}, {3, 4}, {0, 0}, {0, 0}, {-1, -1}}, {{1, 2}, {3, 4}, {5, 0}, {0, 0}, {1, 1}},
		{{1, -1}, {2, -1}, {3, -1}, {4, -1}, {5, -1}, {0, -1}}, make([][2]int, 6), make([][2]int, 100000),
	}
	// wordless is texts that are no words for calls.
	wordless = []string{"c", "A", "abc", "ab ", " ", "\x00", "a\x00b", "á", "\xff", "ab\xc3", "`", "aB", "a-1", "日", strings.Repeat("a", 101), strings.Repeat("ab", 51), strings.Repeat("a", 100) + "c", strings.Repeat("b", 100000)}
)

// isNet is the definition of a net of letters.
func isNet(net [][2]int) bool {
	k := len(net)
	if k < 1 || k > 5 {
		return false
	}
	from, to := make([]bool, k), make([]bool, k)
	for i, row := range net {
		for _, j := range row {
			if j < -1 || j >= k {
				return false
			}
			if j >= 0 {
				from[i], to[j] = true, true
			}
		}
	}
	return !slices.Contains(from, false) && !slices.Contains(to, false)
}

// eachTable calls do for all tables of k rows with numbers from least to most.
func eachTable(k, least, most int, do func(net [][2]int)) {
	net := make([][2]int, k)
	for i := range net {
		net[i] = [2]int{least, least}
	}
	for {
		do(net)
		place := 0
		for place < 2*k && net[place/2][place%2] == most {
			net[place/2][place%2] = least
			place++
		}
		if place == 2*k {
			return
		}
		net[place/2][place%2]++
	}
}

// allNets is all nets of k nodes.
func allNets(k int) [][][2]int {
	var list [][][2]int
	eachTable(k, -1, k-1, func(net [][2]int) {
		if isNet(net) {
			list = append(list, slices.Clone(net))
		}
	})
	return list
}

// chance is a sequence of numbers that follow from a seed.
func chance(seed uint64) func(below int) int {
	return func(below int) int {
		seed = seed*6364136223846793005 + 1442695040888963407
		return int((seed >> 33) % uint64(below))
	}
}

// filled is a net of k nodes that follows from a seed, with more holes the greater that number is.
func filled(k int, seed uint64, holes int) [][2]int {
	next := chance(seed)
	for {
		net := make([][2]int, k)
		for i := range net {
			for j := range net[i] {
				net[i][j] = next(k)
				if next(10) < holes {
					net[i][j] = -1
				}
			}
		}
		if isNet(net) {
			return net
		}
	}
}

// doubled is the net with the numbers of its nodes exchanged, and one node of it twice where there is room, so that it writes the same words.
func doubled(net [][2]int, seed uint64) [][2]int {
	next := chance(seed)
	k := len(net)
	numbers := make([]int, k)
	for i := range numbers {
		other := next(i + 1)
		numbers[i], numbers[other] = numbers[other], i
	}
	twice := next(k)
	size := min(5, k+1)
	for {
		copied := make([][2]int, size)
		for i, row := range net {
			for letter, to := range row {
				if to >= 0 {
					to = numbers[to]
				}
				copied[numbers[i]][letter] = to
			}
		}
		if size > k {
			copied[k] = copied[twice]
			for i := range copied {
				for letter, to := range copied[i] {
					if to == twice && next(2) == 0 {
						copied[i][letter] = k
					}
				}
			}
		}
		if isNet(copied) {
			return copied
		}
		if next(50) == 0 { // there may be one arrow to that node alone
			size = k
		}
	}
}

// slow is nets whose words are long before they tell something.
func slow() [][][2]int {
	return [][][2]int{
		{{1, 1}, {2, 1}, {3, 2}, {0, 3}}, {{1, 1}, {2, 1}, {3, 2}, {4, 3}, {0, 4}}, {{1, 1}, {2, 2}, {3, 3}, {4, 4}, {0, -1}}, {{1, 0}, {2, 1}, {3, 2}, {4, 3}, {0, -1}},
		{{1, 1}, {2, 2}, {3, 3}, {4, 4}, {0, 0}}, {{1, -1}, {2, -1}, {3, -1}, {4, -1}, {0, -1}}, {{-1, 1}, {-1, 2}, {-1, 3}, {-1, 4}, {0, -1}}, {{1, 1}, {2, 2}, {3, 3}, {4, 4}, {0, 1}},
		{{2, 3}, {-1, 4}, {0, 0}, {4, 1}, {3, 2}}, {{4, 1}, {2, 4}, {0, 0}, {1, -1}, {3, 2}}, {{1, 1}, {-1, 3}, {4, 2}, {2, -1}, {0, -1}}, {{-1, 3}, {2, -1}, {4, 0}, {-1, 1}, {0, 4}},
		{{3, -1}, {2, 0}, {0, 2}, {-1, 1}}, {{3, 1}, {-1, 4}, {-1, 0}, {3, 2}, {2, -1}}, {{3, 0}, {0, 3}, {4, 4}, {-1, 2}, {1, -1}}, {{1, 2}, {-1, 0}, {4, -1}, {0, -1}, {3, 4}},
		{{0, 1}, {1, 2}, {2, 3}, {3, 4}, {4, 0}}, {{1, -1}, {0, 2}, {1, 3}, {2, 4}, {3, -1}}, {{0, -1}, {1, 0}, {2, 1}, {3, 2}, {4, 3}},
	}
}

// someNets is all nets of one and two nodes, and many others; more of them, the less each is left out.
func someNets(each int) [][][2]int {
	list := append(allNets(1), allNets(2)...)
	list = append(list, slow()...)
	for i, net := range allNets(3) {
		if i%(5*each) == 0 {
			list = append(list, net)
		}
	}
	for seed := range uint64(120 / each) {
		for k := 3; k <= 5; k++ {
			for _, holes := range []int{0, 2, 4, 6} {
				list = append(list, filled(k, seed, holes))
			}
		}
	}
	for i, net := range slices.Clone(list) {
		if len(net) < 5 && i%(2*each) == 0 {
			list = append(list, doubled(net, uint64(i)))
		}
	}
	return list
}

// allWords is all words with m letters, rising.
func allWords(m int) []string {
	var list []string
	for number := range 1 << m {
		word := make([]byte, m)
		for i := range word {
			word[i] = 'a' + byte(number>>(m-1-i)&1)
		}
		list = append(list, string(word))
	}
	return list
}

// isText is whether a text is of the letters a and b alone.
func isText(word string) bool {
	return strings.Trim(word, "ab") == ""
}

// follow is the node at which the way with the word that begins at a node ends, or -1.
func follow(net [][2]int, node int, word string) int {
	for i := 0; i < len(word) && node >= 0; i++ {
		node = net[node][word[i]-'a']
	}
	return node
}

// ends is the set of nodes at which ways with the word end.
func ends(net [][2]int, word string) int {
	set := 0
	for node := range net {
		if to := follow(net, node, word); to >= 0 {
			set |= 1 << to
		}
	}
	return set
}

// isWritten is whether there is a way with the word.
func isWritten(net [][2]int, word string) bool {
	return ends(net, word) != 0
}

// isOne is whether a set has one item.
func isOne(set int) bool {
	return bits.OnesCount(uint(set)) == 1
}

// hangs is the definition of what hangs together: no way that is needed has more arrows than there are nodes.
func hangs(net [][2]int) bool {
	for i := range net {
		met := 0
		now := []int{i}
		for range net {
			var next []int
			for _, node := range now {
				for _, to := range net[node] {
					if to >= 0 {
						met |= 1 << to
						next = append(next, to)
					}
				}
			}
			now = next
		}
		if met != 1<<len(net)-1 {
			return false
		}
	}
	return true
}

// areEqual is whether ways with the same words begin at two nodes: of two that differ, one of at most as many letters as there are nodes tells.
func areEqual(net [][2]int, s, t int) bool {
	for m := range len(net) + 1 {
		for _, word := range allWords(m) {
			if (follow(net, s, word) < 0) != (follow(net, t, word) < 0) {
				return false
			}
		}
	}
	return true
}

// leasts is the definition of Equal.
func leasts(net [][2]int) []int {
	list := make([]int, len(net))
	for node := range net {
		for !areEqual(net, list[node], node) {
			list[node]++
		}
	}
	return list
}

// formOf is the definition of the form.
func formOf(net [][2]int) [][2]int {
	classes := leasts(net)
	numbers := map[int]int{}
	for node, first := range classes {
		if node == first {
			numbers[node] = len(numbers)
		}
	}
	form := make([][2]int, len(numbers))
	for node, number := range numbers {
		for letter, to := range net[node] {
			form[number][letter] = -1
			if to >= 0 {
				form[number][letter] = numbers[classes[to]]
			}
		}
	}
	return form
}

// permutations is all lists of the numbers from 0 to n - 1.
func permutations(n int) [][]int {
	if n == 0 {
		return [][]int{nil}
	}
	var l [][]int
	for _, p := range permutations(n - 1) {
		for i := range n {
			l = append(l, slices.Insert(slices.Clone(p), i, n-1))
		}
	}
	return l
}

// areAlike is whether two nets are the same up to the numbers of their nodes.
func areAlike(a, b [][2]int) bool {
	if len(a) != len(b) {
		return false
	}
	return slices.ContainsFunc(permutations(len(a)), func(p []int) bool {
		for i, row := range a {
			for letter, to := range row {
				if to >= 0 {
					to = p[to]
				}
				if b[p[i]][letter] != to {
					return false
				}
			}
		}
		return true
	})
}

// form is what Form returns of a net.
func form(t *testing.T, net [][2]int) [][2]int {
	t.Helper()
	got, e := sofic.Form(net)
	if e != api.OK || !isNet(got) {
		t.Fatal(net, got, e)
	}
	return got
}
