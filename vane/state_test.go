package vane_test

import (
	"slices"
	"strings"
	"testing"

	"girouette/vane"
)

// TestBook: P10.2, the lines that were done, as they were given and in their order, and no others.
func TestBook(t *testing.T) {
	s := vane.New()
	want := ""
	for _, c := range []struct {
		line string
		ok   bool
	}{
		{"bar 3 4", true}, {"bar 0 1", true}, {"bar 0 1", false}, {"holes", false}, {"# bar 1 2", false}, {"", false}, {"teams 6", true}, {"teams 7", false}, {"teams 6", true}, {"pieces 31", true}, {"pieces 3 5 6", true}, {"pieces 0", false},
		{"cycle 1 0", true}, {"cycle 0 1", false}, {"cycle 1", false}, {"wind 0 0 0 0", true}, {"wind 0 0 0 -1", false}, {"arrow 0 a 0", true}, {"arrow 0 b -1", false}, {"arrow 1 a -1", false}, {"arrow 1 b 0", true}, {"arrow 1 a -1", true}, {"arrow 0 c 0", false}, {"curve -1 3 0", true}, {"curve 101", false},
		{"rest -1 -2", true}, {"rest 1 0", false}, {" bar 0 2", false}, {"bar 0 2 ", false}, {"bar 0  2", false}, {"bar 0 2\n", false}, {"labels", false}, {"homes 0", false}, {"written a", false}, {"wind 0 0 0 0", true}, {strings.Repeat("x", 600), false}, {"bar 0 2", true},
	} {
		if got := s.Do(c.line); (got == "ok") != c.ok {
			t.Errorf("%.30q: %q", c.line, got)
		}
		if c.ok {
			want += c.line + "\n"
		}
		if got := s.Book(); got != want {
			t.Errorf("%.30q: %q, want %q", c.line, got, want)
		}
	}
	if got := s.Bars(); !slices.Equal(got, [][2]int{{0, 1}, {0, 2}, {3, 4}}) {
		t.Error(got)
	}
}

// TestSameAgain: P10.2, lines that make what is there already are in the book too.
func TestSameAgain(t *testing.T) {
	lines := []string{"pieces 3 5 6", "teams 2", "cycle 1 2 0", "wind 1 1 1 0", "arrow 0 a 0", "arrow 0 b 1", "arrow 1 a 0", "arrow 1 b -1", "curve 1", "rest 1 1"}
	s := after(t, lines...)
	if got := s.Book(); got != strings.Join(lines, "\n")+"\n" {
		t.Errorf("%q", got)
	}
	for _, q := range questions {
		// At whose home two teams meet is not specified, but in a new shop.
		if got, want := s.Do(q), vane.New().Do(q); got != want && q != "homes 0" && q != "homes 1" {
			t.Errorf("%q: %q, want %q", q, got, want)
		}
	}
}

// TestLongBook: P10.2, a book that is long.
func TestLongBook(t *testing.T) {
	s := vane.New()
	var want strings.Builder
	for i := range 20000 {
		line := spelled("curve", i%201-100, i/201)
		if s.Do(line) != "ok" {
			t.Fatal(line)
		}
		want.WriteString(line + "\n")
	}
	if s.Book() != want.String() || s.Fork().Book() != want.String() {
		t.Error(len(s.Book()), want.Len())
	}
}

// TestBarsRising: P10.2, edges that come in any order.
func TestBarsRising(t *testing.T) {
	var all [][2]int
	for a := range 5 {
		for b := a + 1; b < 5; b++ {
			all = append(all, [2]int{a, b})
		}
	}
	for seed := range uint64(200) {
		next := chance(seed)
		s, there := vane.New(), [][2]int{}
		for range 14 {
			bar := all[next(len(all))]
			if s.Do(spelled("bar", bar[:]...)) == "ok" {
				there = append(there, bar)
			}
			want := slices.DeleteFunc(slices.Clone(all), func(x [2]int) bool { return !slices.Contains(there, x) })
			if got := s.Bars(); !slices.Equal(got, want) {
				t.Error(there, got, want)
			}
		}
	}
}

// changes is a line for each part of a shop, which a new shop and those after the others do.
var changes = []string{"pieces 15 16", "bar 1 3", "bar 0 2", "teams 8", "cycle 3 2 0 1", "wind 3 1 2 5", "arrow 1 b 1", "arrow 1 a -1", "curve -2 5 7", "rest 3 2 1"}

// TestFork: P10.2, a fork is as the shop was, and what is told to one of both is nothing to the other.
func TestFork(t *testing.T) {
	for i := range len(changes) + 1 {
		s := after(t, changes[:i]...)
		f := s.Fork()
		before := state(s)
		if f == s || state(f) != before {
			t.Error(i, state(f), before)
		}
		for k := range changes {
			line := changes[(i+k)%len(changes)]
			f.Do(line)
			if state(s) != before {
				t.Error(i, line, state(s), before)
			}
		}
		f = s.Fork()
		for _, line := range changes {
			s.Do(line)
			if state(f) != before {
				t.Error(i, line, state(f), before)
			}
		}
	}
}

// TestForkBars: P10.2, forks of graphs of all sizes, to which and to whose forks other edges are added, at all places.
func TestForkBars(t *testing.T) {
	lines := []string{"bar 1 2", "bar 3 4", "bar 0 4", "bar 2 3", "bar 0 1", "bar 2 4", "bar 1 3", "bar 0 3", "bar 1 4", "bar 0 2"}
	for i := range lines {
		for _, one := range lines[i:] {
			for _, other := range lines[i:] {
				s := after(t, lines[:i]...)
				f := s.Fork()
				f.Do(one)
				s.Do(other)
				if got, want := f.Bars(), after(t, slices.Concat(lines[:i], []string{one})...).Bars(); !slices.Equal(got, want) {
					t.Error(i, one, other, got, want)
				}
				if got, want := s.Bars(), after(t, slices.Concat(lines[:i], []string{other})...).Bars(); !slices.Equal(got, want) {
					t.Error(i, one, other, got, want)
				}
			}
		}
	}
}

// TestForks: P10.2, several forks of one shop, and forks of forks, each of which goes its way.
func TestForks(t *testing.T) {
	for seed := range uint64(60) {
		next := chance(seed + 77)
		shops, models := []*vane.Shop{vane.New()}, [][]string{nil}
		for range 60 {
			i := next(len(shops))
			if next(6) == 0 && len(shops) < 6 {
				shops, models = append(shops, shops[i].Fork()), append(models, slices.Clone(models[i]))
			}
			line := someLine(next)
			shops[i].Do(line)
			models[i] = append(models[i], line)
		}
		for i, s := range shops {
			alone := vane.New()
			replies(alone, models[i])
			if got, want := state(s), state(alone); got != want {
				t.Error(seed, i, got, want)
			}
		}
	}
}
