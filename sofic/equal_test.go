package sofic_test

import (
	"fmt"
	"slices"
	"testing"

	"girouette/api"
	"girouette/sofic"
)

// TestEqualAndForm: P7.3.
func TestEqualAndForm(t *testing.T) {
	for _, net := range append(someNets(1), allNets(3)...) {
		if got, e := sofic.Equal(net); !slices.Equal(got, leasts(net)) || e != api.OK {
			t.Error("Equal", net, got, e)
		}
		if got, e := sofic.Form(net); !slices.Equal(got, formOf(net)) || e != api.OK {
			t.Error("Form", net, got, e)
		}
	}
}

// TestKnownForms: P7.3, classes in the order of their least nodes.
func TestKnownForms(t *testing.T) {
	for _, c := range []struct {
		net   [][2]int
		equal []int
		form  [][2]int
	}{
		{golden, []int{0, 1}, golden},
		{even, []int{0, 1}, even},
		{apart, []int{0, 1}, apart},
		{[][2]int{{1, -1}, {2, -1}, {3, -1}, {4, -1}, {0, -1}}, []int{0, 0, 0, 0, 0}, [][2]int{{0, -1}}},
		{[][2]int{{1, 4}, {2, 3}, {0, 4}, {1, -1}, {2, -1}}, []int{0, 0, 0, 3, 3}, golden},
		{[][2]int{{3, -1}, {4, 0}, {1, -1}, {1, 2}, {3, 2}}, []int{0, 1, 0, 1, 1}, [][2]int{{1, -1}, {1, 0}}},
		{[][2]int{{-1, 1}, {2, 3}, {-1, 3}, {0, 1}}, []int{0, 1, 0, 1}, [][2]int{{-1, 1}, {0, 1}}},
	} {
		if got, e := sofic.Equal(c.net); !slices.Equal(got, c.equal) || e != api.OK {
			t.Error("Equal", c.net, got, e)
		}
		if got, e := sofic.Form(c.net); !slices.Equal(got, c.form) || e != api.OK {
			t.Error("Form", c.net, got, e)
		}
	}
}

// TestApart: P7.3, for all two nodes a word that begins at just one of them, and no shorter one that does.
func TestApart(t *testing.T) {
	for _, net := range someNets(1) {
		for i := range net {
			for j := range net {
				word, ok, e := sofic.Apart(net, i, j)
				if e != api.OK || ok == areEqual(net, i, j) || !isText(word) || !ok && word != "" {
					t.Error(net, i, j, word, ok, e)
					continue
				}
				if !ok {
					continue
				}
				if (follow(net, i, word) < 0) == (follow(net, j, word) < 0) {
					t.Error(net, i, j, word)
				}
				for m := range len(word) {
					for _, shorter := range allWords(m) {
						if (follow(net, i, shorter) < 0) != (follow(net, j, shorter) < 0) {
							t.Error(net, i, j, word, shorter)
						}
					}
				}
			}
		}
	}
}

// TestApartOfNoNodes: P7.3 and R9.
func TestApartOfNoNodes(t *testing.T) {
	for _, net := range someNets(4) {
		for _, number := range append([]int{len(net), len(net) + 1, 5, 6}, far...) {
			for node := range net {
				if number >= 0 && number < len(net) {
					continue
				}
				for _, nodes := range [][2]int{{number, node}, {node, number}, {number, number}} {
					if word, ok, e := sofic.Apart(net, nodes[0], nodes[1]); word != "" || ok || e != api.ErrArg {
						t.Error(net, nodes, word, ok, e)
					}
				}
			}
		}
	}
}

// fewestLetters is how many letters a shortest word that just one of two nets writes has, or -1: the sets at which words end, of more and more letters, until no new ones come.
func fewestLetters(a, b [][2]int) int {
	seen := map[[2]int]bool{}
	now := [][2]int{{1<<len(a) - 1, 1<<len(b) - 1}}
	for m := 0; len(now) > 0; m++ {
		var next [][2]int
		for _, sets := range now {
			if seen[sets] {
				continue
			}
			seen[sets] = true
			if (sets[0] == 0) != (sets[1] == 0) {
				return m
			}
			for letter := range 2 {
				next = append(next, [2]int{onward(a, sets[0], letter), onward(b, sets[1], letter)})
			}
		}
		now = next
	}
	return -1
}

// onward is the set of nodes to which arrows with a letter go from those of a set.
func onward(net [][2]int, set, letter int) int {
	after := 0
	for node, row := range net {
		if set>>node&1 == 1 && row[letter] >= 0 {
			after |= 1 << row[letter]
		}
	}
	return after
}

// checkSame compares Same with the definition; it is whether it returned true.
func checkSame(t *testing.T, a, b [][2]int) bool {
	t.Helper()
	word, ok, e := sofic.Same(a, b)
	fewest := fewestLetters(a, b)
	if e != api.OK || ok != (fewest < 0) || !isText(word) || ok && word != "" {
		t.Error(a, b, word, ok, e)
	}
	if !ok && (len(word) != fewest || isWritten(a, word) == isWritten(b, word)) {
		t.Error(a, b, word, fewest)
	}
	return ok
}

// TestSame: P7.3.
func TestSame(t *testing.T) {
	same, differ := 0, 0
	nets := someNets(4)
	for i, a := range nets {
		for j, b := range nets {
			if len(a) > 2 && len(b) > 2 && (i+j)%7 > 0 {
				continue
			}
			if checkSame(t, a, b) {
				same++
			} else {
				differ++
			}
		}
	}
	if same < 100 || differ < 1000 {
		t.Error(same, differ)
	}
}

// TestSameOfLongWords: P7.3, nets that differ late.
func TestSameOfLongWords(t *testing.T) {
	for _, c := range []struct {
		a, b    [][2]int
		letters int
	}{
		{[][2]int{{1, -1}, {0, -1}}, [][2]int{{1, 0}, {0, -1}}, 1},
		{[][2]int{{2, 2}, {2, 0}, {1, 0}}, [][2]int{{3, 2}, {-1, 4}, {2, 1}, {3, 0}, {0, 0}}, 8},
		{[][2]int{{2, 3}, {3, 0}, {4, 2}, {0, 1}, {1, -1}}, [][2]int{{-1, 0}, {1, 1}}, 11},
		{[][2]int{{2, 2}, {0, 4}, {4, 1}, {0, -1}, {3, 0}}, [][2]int{{1, 1}, {1, 0}}, 12},
		{[][2]int{{2, 4}, {-1, 2}, {3, 3}, {0, 0}, {1, 2}}, [][2]int{{4, 0}, {2, 2}, {1, 4}, {4, 2}, {0, 3}}, 13},
	} {
		for _, nets := range [][2][][2]int{{c.a, c.b}, {c.b, c.a}} {
			if word, ok, e := sofic.Same(nets[0], nets[1]); len(word) != c.letters || ok || e != api.OK {
				t.Error(nets, word, ok, e)
			}
			checkSame(t, nets[0], nets[1])
		}
	}
}

// TestFormIsSame: P7.7, the form writes the same words as the net, its nodes are all different, and it is its own form.
func TestFormIsSame(t *testing.T) {
	for _, net := range append(someNets(1), allNets(3)...) {
		got := form(t, net)
		if word, ok, e := sofic.Same(net, got); word != "" || !ok || e != api.OK {
			t.Error(net, got, word, ok, e)
		}
		for i := range got {
			for j := range i {
				if _, ok, e := sofic.Apart(got, i, j); !ok || e != api.OK {
					t.Error(net, got, i, j, e)
				}
			}
		}
		if again := form(t, got); !slices.Equal(again, got) {
			t.Error(net, got, again)
		}
	}
}

// TestFischer: P7.7, of all nets with up to three nodes that hang together, just those that write the same words have forms that are alike. Words of eight letters tell which these are.
func TestFischer(t *testing.T) {
	firsts := map[string][][2]int{}
	shared := 0
	for _, net := range slices.Concat(allNets(1), allNets(2), allNets(3)) {
		if !hangs(net) {
			continue
		}
		words, e := sofic.Words(net, 8)
		if e != api.OK {
			t.Error(net, e)
		}
		first, ok := firsts[fmt.Sprint(words)]
		if !ok {
			firsts[fmt.Sprint(words)] = net
			continue
		}
		shared++
		if !areAlike(form(t, first), form(t, net)) || !checkSame(t, first, net) {
			t.Error(first, net)
		}
	}
	if shared < 100 || len(firsts) < 50 {
		t.Error(shared, len(firsts))
	}
	for i, net := range someNets(1) {
		other := doubled(net, uint64(i))
		if !hangs(net) || !hangs(other) {
			continue
		}
		if !areAlike(form(t, net), form(t, other)) || !checkSame(t, net, other) {
			t.Error(net, other)
		}
	}
}
