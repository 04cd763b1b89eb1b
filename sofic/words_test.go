package sofic_test

import (
	"slices"
	"strings"
	"testing"

	"girouette/api"
	"girouette/sofic"
)

// checkWord compares Is and Ends with the definition.
func checkWord(t *testing.T, net [][2]int, word string) {
	t.Helper()
	is, e := sofic.Is(net, word)
	set, f := sofic.Ends(net, word)
	if e != api.OK || f != api.OK || is != isWritten(net, word) || set != ends(net, word) {
		t.Error(net, word, is, e, set, f)
	}
}

// TestIsAndEnds: P7.2, all short words and some long ones.
func TestIsAndEnds(t *testing.T) {
	for _, net := range someNets(2) {
		for m := range 7 {
			for _, word := range allWords(m) {
				checkWord(t, net, word)
			}
		}
		for _, part := range []string{"a", "b", "ab", "aab", "abb", "bba", "ababb"} {
			for _, letters := range []int{7, 99, 100} {
				checkWord(t, net, strings.Repeat(part, 100)[:letters])
				checkWord(t, net, strings.Repeat(part, 100)[:letters-1]+"b")
			}
		}
	}
}

// TestEndsOfEmpty: P7.2, the empty word is written, and ends at all nodes.
func TestEndsOfEmpty(t *testing.T) {
	for _, net := range someNets(4) {
		is, e := sofic.Is(net, "")
		set, f := sofic.Ends(net, "")
		if !is || e != api.OK || set != 1<<len(net)-1 || f != api.OK {
			t.Error(net, is, e, set, f)
		}
	}
}

// TestNoWords: P7.1, texts that are no words, or too long.
func TestNoWords(t *testing.T) {
	for _, net := range someNets(4) {
		for _, word := range wordless {
			is, e := sofic.Is(net, word)
			set, f := sofic.Ends(net, word)
			if is || e != api.ErrArg || set != 0 || f != api.ErrArg {
				t.Error(net, len(word), is, e, set, f)
			}
		}
	}
}

// written is the words with m letters that are written, rising.
func written(net [][2]int, m int) []string {
	return slices.DeleteFunc(allWords(m), func(word string) bool { return !isWritten(net, word) })
}

// forbidden is the forbidden words with m letters, rising.
func forbidden(net [][2]int, m int) []string {
	return slices.DeleteFunc(allWords(m), func(word string) bool {
		return isWritten(net, word) || !isWritten(net, word[1:]) || !isWritten(net, word[:m-1])
	})
}

// TestLists: P7.2, Count, Words and Forbidden.
func TestLists(t *testing.T) {
	for i, net := range someNets(2) {
		for m := range 13 {
			if m > 8 && i%10 > 0 {
				continue
			}
			want := written(net, m)
			if got, e := sofic.Count(net, m); got != len(want) || e != api.OK {
				t.Error("Count", net, m, got, e)
			}
			if m > 8 {
				continue
			}
			if got, e := sofic.Words(net, m); !slices.Equal(got, want) || e != api.OK {
				t.Error("Words", net, m, got, e)
			}
			if m == 0 {
				continue
			}
			if got, e := sofic.Forbidden(net, m); !slices.Equal(got, forbidden(net, m)) || e != api.OK {
				t.Error("Forbidden", net, m, got, e)
			}
		}
	}
}

// TestKnownLists: P7.2, lists that are known.
func TestKnownLists(t *testing.T) {
	before, now := 1, 2
	for m := range 13 {
		if got, e := sofic.Count(golden, m); got != before || e != api.OK {
			t.Error(m, got, e)
		}
		before, now = now, before+now
		if got, e := sofic.Count([][2]int{{0, 0}}, m); got != 1<<m || e != api.OK {
			t.Error(m, got, e)
		}
	}
	if got, e := sofic.Words(even, 3); !slices.Equal(got, []string{"aaa", "aab", "abb", "baa", "bab", "bba", "bbb"}) || e != api.OK {
		t.Error(got, e)
	}
	if got, e := sofic.Words(even, 0); !slices.Equal(got, []string{""}) || e != api.OK {
		t.Error(got, e)
	}
	for m := 1; m <= 8; m++ {
		var want []string
		if m%2 == 1 && m >= 3 {
			want = []string{"a" + strings.Repeat("b", m-2) + "a"}
		}
		if got, e := sofic.Forbidden(even, m); !slices.Equal(got, want) || e != api.OK {
			t.Error(m, got, e)
		}
	}
	if got, e := sofic.Forbidden([][2]int{{-1, 0}}, 1); !slices.Equal(got, []string{"a"}) || e != api.OK {
		t.Error(got, e)
	}
}

// TestNumbersOfLetters: P7.2, P7.6 and R9, numbers of letters that are not in range, and the last ones that are.
func TestNumbersOfLetters(t *testing.T) {
	for _, net := range someNets(4) {
		for _, m := range append([]int{0, 1, 2, 7, 8, 9, 10, 11, 12}, far...) {
			many, e := sofic.Count(net, m)
			list, f := sofic.Words(net, m)
			out, g := sofic.Forbidden(net, m)
			rounds, h := sofic.Rounds(net, m)
			signed, i := sofic.Signed(net, m)
			for _, c := range []struct {
				name        string
				e           api.Errno
				isZero      bool
				least, most int
			}{
				{"Count", e, many == 0, 0, 12}, {"Words", f, len(list) == 0, 0, 8}, {"Forbidden", g, len(out) == 0, 1, 8}, {"Rounds", h, rounds == 0, 1, 10}, {"Signed", i, signed == 0, 1, 10},
			} {
				want := api.OK
				if m < c.least || m > c.most {
					want = api.ErrArg
				}
				if c.e != want || want != api.OK && !c.isZero {
					t.Error(c.name, net, m, c.e, c.isZero)
				}
			}
		}
	}
}
