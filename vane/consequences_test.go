package vane_test

import (
	"slices"
	"strings"
	"testing"

	"girouette/vane"
)

// bookLines is the lines of a book.
func bookLines(t *testing.T, s *vane.Shop) []string {
	t.Helper()
	book := s.Book()
	if book == "" {
		return nil
	}
	if !strings.HasSuffix(book, "\n") {
		t.Errorf("%q", book)
	}
	return strings.Split(strings.TrimSuffix(book, "\n"), "\n")
}

// TestBookIsTheShop: P10.4 and W7, books that are done again.
func TestBookIsTheShop(t *testing.T) {
	for seed := range uint64(150) {
		s := vane.New()
		replies(s, someLines(80, seed+5000))
		again := after(t, bookLines(t, s)...)
		if got, want := state(again), state(s); got != want {
			t.Error(seed, got, want)
		}
		later := someLines(60, seed+9000)
		if got, want := replies(again, later), replies(s, later); !slices.Equal(got, want) {
			t.Error(seed, got, want)
		}
		if got, want := state(again), state(s); got != want {
			t.Error(seed, got, want)
		}
	}
}

// TestQuestionsChangeNothing: P10.5, what is replied with and without questions and lines that are refused.
func TestQuestionsChangeNothing(t *testing.T) {
	for seed := range uint64(150) {
		s, without := vane.New(), vane.New()
		for _, line := range someLines(80, seed+20000) {
			reply := s.Do(line)
			if reply != "ok" {
				continue
			}
			if got := without.Do(line); got != reply {
				t.Error(seed, line, got)
			}
		}
		if got, want := state(s), state(without); got != want {
			t.Error(seed, got, want)
		}
	}
}

// TestRefusedLinesOneByOne: P10.5 and R3, each line that is not done, by all that can be asked before and behind it.
func TestRefusedLinesOneByOne(t *testing.T) {
	for seed := range uint64(20) {
		s := vane.New()
		for _, line := range someLines(60, seed+30000) {
			before := state(s)
			if reply := s.Do(line); reply != "ok" && state(s) != before {
				t.Errorf("%d %q: %q %s, want %s", seed, line, reply, state(s), before)
			}
		}
	}
}

// mixed is the lines in another order.
func mixed(lines []string, next func(int) int) []string {
	lines = slices.Clone(lines)
	for i := range lines {
		k := next(i + 1)
		lines[i], lines[k] = lines[k], lines[i]
	}
	return lines
}

// TestOrderOfBars: P10.6, the same edges one after the other in several orders.
func TestOrderOfBars(t *testing.T) {
	all := []string{"bar 0 1", "bar 0 2", "bar 0 3", "bar 0 4", "bar 1 2", "bar 1 3", "bar 1 4", "bar 2 3", "bar 2 4", "bar 3 4"}
	asked := []string{"labels", "above", "drawn"}
	for seed := range uint64(100) {
		next := chance(seed)
		lines := mixed(all, next)[:1+next(len(all))]
		first := after(t, lines...)
		want := replies(first, asked)
		for range 4 {
			other := after(t, mixed(lines, next)...)
			if got := replies(other, asked); !slices.Equal(got, want) || !slices.Equal(other.Bars(), first.Bars()) {
				t.Error(lines, got, want)
			}
		}
	}
}

// TestLastCounts: P10.6, of the lines of a kind the last one, but for edges and arrows; of arrows all.
func TestLastCounts(t *testing.T) {
	for seed := range uint64(150) {
		s := vane.New()
		replies(s, someLines(120, seed+40000))
		done := bookLines(t, s)
		var kept []string
		for i, line := range done {
			name, _, _ := strings.Cut(line, " ")
			later := slices.ContainsFunc(done[i+1:], func(other string) bool { return strings.HasPrefix(other, name+" ") })
			if !later || name == "bar" || name == "arrow" {
				kept = append(kept, line)
			}
		}
		if got, want := replies(after(t, kept...), questions), replies(s, questions); !slices.Equal(got, want) {
			t.Error(seed, got, want)
		}
	}
}

// TestArrowsAllCount: P10.6, a net that the last arrow alone does not make.
func TestArrowsAllCount(t *testing.T) {
	talk(t, after(t, "arrow 1 b 0", "arrow 1 a -1"), `
memory = error 4
written aba = written no
written abba = written yes`)
	talk(t, after(t, "arrow 1 b 0"), `
memory = memory 0
written aba = written yes
written abba = written yes`)
	talk(t, vane.New(), `
arrow 1 a -1 = error 70
memory = memory 1
written aba = written yes
written abba = written no`)
}
