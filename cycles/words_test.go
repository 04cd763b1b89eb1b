package cycles_test

import (
	"slices"
	"strings"
	"testing"

	"girouette/api"
	"girouette/cycles"
)

// noWords is strings that are not words.
var noWords = []string{
	"C", "LC", "CR", "LCR", "l", "r", "RL ", " ", "R\x00", "\x00", "\xff", "R\xffL", "Ｌ", "RＲ", "Ŕ", "É", "R\u0301", "0", "RM", "RLRLRLRLRLRL", "LLLLLLLLLLLL", "RRRRRRRRRRRRC",
	strings.Repeat("R", 100000), "RLRLRLRLRL\xc3", "RLRLRLRLRLÉ",
}

// noEnds is strings that are not words with C.
var noEnds = []string{
	"", "R", "L", "CC", "RCC", "CRC", "LCRC", "CL", "RCR", "c", "Rc", "lC", "RC ", " C", "C\x00", "C\n", "\xffC", "ＬC", "RＣ", "Ć", "RLRLRLRLRLRLC", "RLRLRLRLRLRL", "RLRLRLRLRLR",
	strings.Repeat("R", 100000) + "C", strings.Repeat("C", 100000),
}

// TestLower: P5.5, all pairs of words with C with up to five letters, and some with more.
func TestLower(t *testing.T) {
	var all []string
	for letters := range 12 {
		for i, w := range wordsOf(letters) {
			if letters <= 5 || i%(1<<letters/8-1) == 0 {
				all = append(all, w+"C")
			}
		}
	}
	for _, a := range all {
		for _, b := range all {
			got, e := cycles.Lower(a, b)
			if got != isLower(a, b) || e != api.OK {
				t.Error(a, b, got, e)
			}
			if other, _ := cycles.Lower(b, a); a != b && got == other || a == b && other {
				t.Error(a, b, got, other)
			}
		}
	}
	// As places from the lowest one on.
	rising := []string{"LLC", "LC", "LRC", "C", "RRC", "RC", "RLRC", "RLC", "RLLC"}
	for i, a := range rising {
		for k, b := range rising {
			if got, e := cycles.Lower(a, b); got != (i < k) || e != api.OK {
				t.Error(a, b, got, e)
			}
		}
	}
}

func TestLowerErrors(t *testing.T) {
	good := []string{"C", "RC", "LC", "RLRC", "RLRLRLRLRLRC"}
	for _, a := range noEnds {
		for _, b := range slices.Concat(good, noEnds[:12]) {
			if got, e := cycles.Lower(a, b); got || e != api.ErrArg {
				t.Errorf("%q %q %v %v", a, b, got, e)
			}
			if got, e := cycles.Lower(b, a); got || e != api.ErrArg {
				t.Errorf("%q %q %v %v", b, a, got, e)
			}
		}
	}
	for _, a := range good {
		for _, b := range good {
			if got, e := cycles.Lower(a, b); got != isLower(a, b) || e != api.OK {
				t.Error(a, b, got, e)
			}
		}
	}
}

// TestGreatest: P5.5 and P5.8, all words.
func TestGreatest(t *testing.T) {
	for letters := range 12 {
		var want []string
		for _, w := range wordsOf(letters) {
			is := isGreatest(w)
			if is {
				want = append(want, w)
			}
			if got, e := cycles.IsGreatest(w); got != is || e != api.OK {
				t.Error(w, got, e)
			}
		}
		got, e := cycles.Greatest(letters)
		if e != api.OK || !slices.Equal(got, want) || !slices.IsSorted(got) {
			t.Error(letters, got, e, want)
		}
		n, twice := letters+1, int64(0)
		for d := 1; d <= n; d += 2 {
			if n%d == 0 {
				twice += mu(d) << (n / d)
			}
		}
		if int64(len(got)*2*n) != twice {
			t.Error(letters, len(got), twice)
		}
	}
	for _, letters := range append(far, 12) {
		if got, e := cycles.Greatest(letters); len(got) > 0 || e != api.ErrArg {
			t.Error(letters, got, e)
		}
	}
	for _, w := range noWords {
		if got, e := cycles.IsGreatest(w); got || e != api.ErrArg {
			t.Errorf("%q %v %v", w, got, e)
		}
	}
	for w, want := range map[string]bool{"": true, "R": true, "L": false, "RL": true, "RR": false, "LR": false, "RLR": true, "RLL": true, "RRL": false} {
		if got, e := cycles.IsGreatest(w); got != want || e != api.OK {
			t.Error(w, got, e)
		}
	}
}

// cycleOf is the cycle of a word by its definition: a string's place is the number of those that are lower.
func cycleOf(w string) []int {
	n := len(w) + 1
	place := func(k int) int {
		many := 0
		for other := range n {
			if isLower(w[other:]+"C", w[k:]+"C") {
				many++
			}
		}
		return many
	}
	p := make([]int, n)
	for k := range n {
		p[place(k)] = place((k + 1) % n)
	}
	return p
}

// wordOf is where a cycle that rises and falls goes, from its greatest number on: L where it rises, R where it falls, until it comes to where it turns.
func wordOf(p []int) string {
	w := ""
	turn := slices.Index(p, len(p)-1)
	for at := len(p) - 1; at != turn; at = p[at] {
		if at < turn {
			w += "L"
		} else {
			w += "R"
		}
	}
	return w
}

// risesAndFalls is whether a cycle rises up to one number, and falls from there on.
func risesAndFalls(p []int) bool {
	turn := slices.Index(p, len(p)-1)
	falling := slices.Clone(p[turn:])
	slices.Reverse(falling)
	return slices.IsSorted(p[:turn]) && slices.IsSorted(falling)
}

// TestOf: P5.5 and P5.9, all words with up to seven letters.
func TestOf(t *testing.T) {
	for letters := 1; letters <= 7; letters++ {
		all := map[string]bool{}
		for _, w := range wordsOf(letters) {
			got, e := cycles.Of(w)
			if !isGreatest(w) {
				if len(got) > 0 || e != api.ErrNone {
					t.Error(w, got, e)
				}
				continue
			}
			if e != api.OK || !slices.Equal(got, cycleOf(w)) || cycles.Check(got) != api.OK {
				t.Error(w, got, e)
				continue
			}
			if !risesAndFalls(got) || wordOf(got) != w {
				t.Error(w, got, wordOf(got))
			}
			all[w] = true
		}
		// All cycles that rise and fall are those of words.
		many := 0
		for _, p := range cyclesOf(letters + 1) {
			if risesAndFalls(p) {
				many++
				if !all[wordOf(p)] {
					t.Error(p, wordOf(p))
				}
			}
		}
		if many != len(all) {
			t.Error(letters, many, len(all))
		}
	}
}

func TestOfErrors(t *testing.T) {
	for _, w := range append([]string{"", "RLLLLLLL", "RLRLRLRL", "LLLLLLLL", "RRRRRRRR", "RLLLLLLLLLL"}, noWords...) {
		if got, e := cycles.Of(w); len(got) > 0 || e != api.ErrArg {
			t.Errorf("%q %v %v", w, got, e)
		}
	}
	for _, w := range []string{"L", "RR", "LR", "LL", "RRL", "RRRRRRR", "LLLLLLL", "RLRLRLR"} {
		if got, e := cycles.Of(w); len(got) > 0 || e != api.ErrNone {
			t.Error(w, got, e)
		}
	}
	for w, want := range map[string][]int{"R": {1, 0}, "RL": {1, 2, 0}, "RLR": {2, 3, 1, 0}, "RLL": {1, 2, 3, 0}, "RLRR": {2, 4, 3, 1, 0}, "RLLLLLL": {1, 2, 3, 4, 5, 6, 7, 0}} {
		if got, e := cycles.Of(w); !slices.Equal(got, want) || e != api.OK {
			t.Error(w, got, e)
		}
	}
}
