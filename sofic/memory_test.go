package sofic_test

import (
	"slices"
	"testing"

	"girouette/api"
	"girouette/sofic"
)

// fewestThatFix is how many letters a shortest word that fixes the node has, or -1.
func fewestThatFix(net [][2]int) int {
	seen := map[int]bool{}
	now := []int{1<<len(net) - 1}
	for m := 0; len(now) > 0; m++ {
		var next []int
		for _, set := range now {
			if seen[set] {
				continue
			}
			seen[set] = true
			if isOne(set) {
				return m
			}
			next = append(next, onward(net, set, 0), onward(net, set, 1))
		}
		now = next
	}
	return -1
}

// TestTells: P7.4 and P7.7, a shortest word that fixes the node of the form. There always is one: where a word ends at two nodes, one that begins at just one of these can be written behind it, and it ends at fewer nodes.
func TestTells(t *testing.T) {
	longest := 0
	for _, net := range append(someNets(1), allNets(3)...) {
		word, ok, e := sofic.Tells(net)
		form := formOf(net)
		if fewest := fewestThatFix(form); e != api.OK || !ok || !isText(word) || len(word) != fewest || !isOne(ends(form, word)) {
			t.Error(net, word, ok, e, fewest)
		}
		longest = max(longest, len(word))
	}
	if longest < 9 {
		t.Error(longest)
	}
}

// TestTellsByForm: P7.4, the word fixes the node of the form, and not of the net: all words of these end at more than one of its nodes.
func TestTellsByForm(t *testing.T) {
	for _, net := range [][][2]int{{{1, -1}, {0, -1}}, {{0, 0}, {1, 1}}, {{1, 1}, {2, 2}, {3, 3}, {4, 4}, {0, 0}}} {
		if word, ok, e := sofic.Tells(net); word != "" || !ok || e != api.OK {
			t.Error(net, word, ok, e)
		}
	}
	if word, ok, e := sofic.Tells([][2]int{{1, 2}, {0, 3}, {1, -1}, {0, -1}}); word != "a" && word != "b" || !ok || e != api.OK {
		t.Error(word, ok, e)
	}
}

// allFix is whether all words with m letters that are written fix the node.
func allFix(net [][2]int, m int) bool {
	return !slices.ContainsFunc(allWords(m), func(word string) bool {
		set := ends(net, word)
		return set != 0 && !isOne(set)
	})
}

// isDoubt is the definition of a doubt.
func isDoubt(form [][2]int, word string, nodes [2]int) bool {
	return word != "" && isText(word) && 0 <= nodes[0] && nodes[0] < nodes[1] && nodes[1] < len(form) &&
		follow(form, nodes[0], word) == nodes[0] && follow(form, nodes[1], word) == nodes[1]
}

// checkMemory compares Memory and Doubt of a net that hangs together with the definitions; it is the memory, or -1. A doubt, written again and again, is in long words that do not fix the node, so that there is no memory beside it.
func checkMemory(t *testing.T, net [][2]int) int {
	t.Helper()
	m, ok, e := sofic.Memory(net)
	word, nodes, doubt, f := sofic.Doubt(net)
	form := formOf(net)
	if e != api.OK || f != api.OK || ok == doubt {
		t.Error(net, m, ok, e, word, nodes, doubt, f)
	}
	if ok && (m < 0 || m > len(form)*(len(form)-1)/2 || !allFix(form, m) || m > 0 && allFix(form, m-1) || word != "" || nodes != [2]int{}) {
		t.Error("Memory", net, m, word, nodes)
	}
	if !ok && (m != 0 || !isDoubt(form, word, nodes)) {
		t.Error("Doubt", net, m, word, nodes)
	}
	if !ok {
		return -1
	}
	return m
}

// TestMemoryAndDoubt: P7.5 and P7.8.
func TestMemoryAndDoubt(t *testing.T) {
	memories := map[int]int{}
	for _, net := range append(someNets(1), allNets(3)...) {
		if hangs(net) {
			memories[checkMemory(t, net)]++
		}
	}
	for m := -1; m <= 8; m++ {
		if memories[m] == 0 {
			t.Error(m, memories)
		}
	}
}

// TestNoMemoryOfParts: P7.5, nets that do not hang together.
func TestNoMemoryOfParts(t *testing.T) {
	some := 0
	for _, net := range someNets(1) {
		if hangs(net) {
			continue
		}
		some++
		if m, ok, e := sofic.Memory(net); m != 0 || ok || e != api.ErrState {
			t.Error(net, m, ok, e)
		}
		if word, nodes, ok, e := sofic.Doubt(net); word != "" || nodes != [2]int{} || ok || e != api.ErrState {
			t.Error(net, word, nodes, ok, e)
		}
	}
	if some < 20 {
		t.Error(some)
	}
}

// TestForbiddenByMemory: P7.8, with the memory m all forbidden words have at most m + 1 letters.
func TestForbiddenByMemory(t *testing.T) {
	for _, net := range someNets(1) {
		memory, ok, _ := sofic.Memory(net)
		for m := memory + 2; ok && m <= 8; m++ {
			if list, e := sofic.Forbidden(net, m); len(list) > 0 || e != api.OK {
				t.Error(net, memory, m, list, e)
			}
		}
	}
}
