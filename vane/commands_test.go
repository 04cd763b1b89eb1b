package vane_test

import (
	"fmt"
	"slices"
	"strings"
	"testing"

	"girouette/vane"
)

// TestNew: P10.1 and P10.2, what a new shop has.
func TestNew(t *testing.T) {
	s := vane.New()
	talk(t, s, `
holes = holes 0 1
shell = shell yes
labels = error 20
above = above 1
drawn = drawn yes
breaks = breaks 0
homes 0 = homes H
homes 1 = homes A
homes 2 = error 1
periods = periods 1 2 3 4 5 6 7 8 9 10 11 12
rounds 0 = rounds 2
rounds 1 = rounds 1
rounds 2 = rounds 3
rounds 3 = rounds 4
rounds 4 = rounds 7
rounds 10 = rounds 123
torsion = torsion
written a = written yes
written b = written yes
written ba = written yes
written bb = written no
memory = memory 1
high = high yes
roots = roots 0
steady = steady yes`)
	if s.Book() != "" || len(s.Bars()) != 0 || !slices.Equal(s.Cycle(), []int{1, 2, 0}) {
		t.Errorf("%q %v %v", s.Book(), s.Bars(), s.Cycle())
	}
}

// TestExamples: P10.1, the examples of the chapter.
func TestExamples(t *testing.T) {
	talk(t, vane.New(), `
holes = holes 0 1
shell = shell yes
bar 0 1 = ok
bar 1 2 = ok
drawn = drawn yes
above = above 2
teams 4 = ok
breaks = breaks 2
cycle 2 3 1 0 = ok
periods = periods 1 2 4
rounds 4 = rounds 7
torsion = torsion
written abba = written no
memory = memory 1
curve 1 -3 3 = ok
high = high yes
curve -1 3 = ok
roots = roots 1
rest 6 1 1 1 = ok
steady = steady no`)
}

// TestPieces: P10.1, complexes on five corners.
func TestPieces(t *testing.T) {
	talk(t, vane.New(), `
pieces 31 = ok
holes = holes 0 0 0 0 0
pieces 1 2 4 8 16 = ok
holes = holes 4
shell = shell yes
pieces 3 12 = ok
holes = holes 1 0
shell = shell no
pieces 7 24 = ok
shell = shell no
pieces 15 23 27 29 30 = ok
holes = holes 0 0 0 1
pieces 7 11 13 14 19 21 22 25 26 28 = ok
holes = holes 0 0 4
pieces 0 = error 10
pieces -1 = error 10
pieces 32 = error 10
pieces 64 = error 10
pieces 1000000 = error 10
pieces 5 3 = error 10
pieces 3 3 = error 10
pieces 1 3 = error 10
pieces 7 31 = error 10
pieces 1 2 4 8 16 3 5 6 9 10 = error 10
holes = holes 0 0 4
pieces = error 100
pieces 1 2 4 8 16 3 5 6 9 10 12 = error 100
pieces 7 11 13 14 19 21 22 25 26 28 31 = error 100
pieces a = error 100
pieces 3 x = error 100
holes = holes 0 0 4`)
}

// TestBar: P10.1, edges that are there, and those that cannot be.
func TestBar(t *testing.T) {
	s := vane.New()
	talk(t, s, `
bar 3 4 = ok
bar 0 4 = ok
bar 0 1 = ok
bar 3 4 = error 5
bar 0 4 = error 5
bar 0 1 = error 5
bar 4 3 = error 1
bar 1 0 = error 1
bar 2 2 = error 1
bar 0 0 = error 1
bar -1 2 = error 1
bar -1 0 = error 1
bar 0 5 = error 1
bar 4 5 = error 1
bar 5 6 = error 1
bar -2 -1 = error 1
bar -1000000 1000000 = error 1
bar 0 = error 100
bar = error 100
bar 0 1 2 = error 100
bar 0 a = error 100
bar 0,2 = error 100
bar 1 2 = ok`)
	if bars := s.Bars(); !slices.Equal(bars, [][2]int{{0, 1}, {0, 4}, {1, 2}, {3, 4}}) {
		t.Error(bars)
	}
}

// TestBars: P10.1 and P10.2, graphs that are asked about after each edge.
func TestBars(t *testing.T) {
	s := vane.New()
	talk(t, s, `
labels = error 20
bar 0 1 = ok
labels = labels 0
above = above 2
drawn = drawn yes
bar 1 2 = ok
above = above 2
bar 2 3 = ok
bar 3 4 = ok
labels = labels 8
above = above 2
drawn = drawn yes
bar 0 4 = ok
labels = labels 0
above = above 0
drawn = drawn no
bar 0 2 = ok
bar 0 3 = ok
bar 1 3 = ok
bar 1 4 = ok
bar 2 4 = ok
above = above 120
drawn = drawn yes
labels = labels 0`)
	if len(s.Bars()) != 10 {
		t.Error(s.Bars())
	}
	for a := range 5 {
		for b := a + 1; b < 5; b++ {
			if got := s.Do(spelled("bar", a, b)); got != "error 5" {
				t.Error(a, b, got)
			}
		}
	}
}

// TestTeams: P10.1, schedules of all numbers of teams by what a schedule with the fewest breaks must be.
func TestTeams(t *testing.T) {
	s := vane.New()
	for n := 2; n <= 10; n += 2 {
		if got := s.Do(spelled("teams", n)); got != "ok" {
			t.Error(n, got)
		}
		breaks, seen := 0, map[string]bool{}
		at := make([]int, n-1)
		for team := range n {
			home, ok := strings.CutPrefix(s.Do(spelled("homes", team)), "homes ")
			if !ok || len(home) != n-1 || seen[home] || strings.Trim(home, "HA") != "" {
				t.Error(n, team, home)
				continue
			}
			seen[home] = true
			for round := range at {
				if home[round] == 'H' {
					at[round]++
				}
				if round > 0 && home[round] == home[round-1] {
					breaks++
				}
			}
		}
		if breaks != n-2 || !slices.Equal(at, slices.Repeat([]int{n / 2}, n-1)) {
			t.Error(n, breaks, at)
		}
		if got := s.Do("breaks"); got != fmt.Sprint("breaks ", n-2) {
			t.Error(n, got)
		}
		for _, team := range []int{-1000000, -1, n, n + 1, 1000000} {
			if got := s.Do(spelled("homes", team)); got != "error 1" {
				t.Error(n, team, got)
			}
		}
	}
	talk(t, s, `
teams 0 = error 1
teams 1 = error 1
teams 3 = error 1
teams 5 = error 1
teams 9 = error 1
teams 11 = error 1
teams 12 = error 1
teams -2 = error 1
teams 1000000 = error 1
teams = error 100
teams 4 4 = error 100
teams four = error 100
breaks = breaks 8`)
}

// TestCycle: P10.1 and P10.2, cycles and what are none.
func TestCycle(t *testing.T) {
	s := vane.New()
	talk(t, s, `
cycle 1 0 = ok
periods = periods 1 2
cycle 2 3 1 0 = ok
periods = periods 1 2 4
cycle 2 4 3 1 0 = ok
periods = periods 1 2 4 5 6 7 8 9 10 11 12
cycle 4 6 5 7 2 3 1 0 = error 50
cycle 4 5 6 7 0 1 2 3 = error 50
cycle 4 5 6 7 2 3 1 0 = ok
periods = periods 1 2 4 8
cycle 0 1 = error 50
cycle 0 0 = error 50
cycle 1 2 = error 50
cycle 1 2 3 = error 50
cycle -1 0 = error 50
cycle 1 0 2 = error 50
cycle 1 0 3 2 = error 50
cycle 1000000 0 = error 50
cycle 0 = error 100
cycle = error 100
cycle 1 2 3 4 5 6 7 8 0 = error 100
cycle 1 x = error 100`)
	if got := s.Cycle(); !slices.Equal(got, []int{4, 5, 6, 7, 2, 3, 1, 0}) {
		t.Error(got)
	}
	talk(t, s, "cycle 1 2 3 4 5 6 7 0 = ok")
	if got := s.Cycle(); !slices.Equal(got, []int{1, 2, 3, 4, 5, 6, 7, 0}) {
		t.Error(got)
	}
}

// TestWind: P10.1, matrices: the first two numbers are the first row.
func TestWind(t *testing.T) {
	talk(t, vane.New(), `
wind 3 0 0 5 = ok
torsion = torsion 2 4
rounds 0 = rounds 2
rounds 2 = rounds 34
wind 1 0 0 1 = ok
torsion = torsion 0 0
wind 2 0 0 1 = ok
torsion = torsion 0
wind 3 0 0 3 = ok
torsion = torsion 2 2
wind 0 1 4 1 = ok
rounds 2 = rounds 9
torsion = torsion 4
wind 0 9 0 0 = ok
rounds 1 = rounds 0
rounds 9 = rounds 0
wind 9 9 9 9 = ok
rounds 10 = rounds 3570467226624
rounds 11 = error 1
rounds -1 = error 1
rounds -1000000 = error 1
wind 10 0 0 0 = error 60
wind 0 0 0 -1 = error 60
wind 0 1000000 0 0 = error 60
rounds 1 = rounds 18
wind = error 100
wind 1 2 3 = error 100
wind 1 2 3 4 5 = error 100
wind 1 2 3 b = error 100
rounds = error 100
rounds 1 1 = error 100
rounds a = error 100
rounds 1 = rounds 18`)
}

// TestArrow: P10.1, nets of two nodes, one arrow after the other.
func TestArrow(t *testing.T) {
	talk(t, vane.New(), `
arrow 1 b 0 = ok
memory = memory 0
written bb = written yes
arrow 1 a -1 = ok
memory = error 4
written abba = written yes
written aba = written no
arrow 1 b -1 = error 70
arrow 0 b -1 = error 70
arrow 0 a -1 = ok
written aa = written no
written bbbb = written yes
memory = memory 0
arrow 1 b 1 = error 70
arrow 0 a 1 = ok
arrow 1 a 1 = ok
arrow 1 b 1 = error 70
arrow 0 b 0 = ok
arrow 1 b 1 = ok
memory = error 5
arrow 0 b 0 = ok
arrow 2 a 0 = error 1
arrow -1 a 0 = error 1
arrow 0 a 2 = error 1
arrow 0 a -2 = error 1
arrow 5 b 7 = error 1
arrow 1000000 b -1000000 = error 1
arrow 0 c 0 = error 100
arrow 5 c 7 = error 100
arrow 0 A 0 = error 100
arrow 0 ab 0 = error 100
arrow 0 0 0 = error 100
arrow a 0 0 = error 100
arrow 0 a = error 100
arrow 0 a b = error 100
arrow b a 0 = error 100
arrow 0 a 0 0 = error 100
arrow = error 100
memory = error 5`)
}

// TestArrowRefused: P10.1, the net stays whole when an arrow is refused, and is that to which the next one is added.
func TestArrowRefused(t *testing.T) {
	s := after(t, "arrow 1 b 0", "arrow 1 a -1", "arrow 0 a -1")
	before := state(s)
	for _, line := range []string{"arrow 0 b -1", "arrow 0 b 0", "arrow 1 b -1", "arrow 1 b 1", "arrow 0 a 2", "arrow 0 d 0"} {
		if got := s.Do(line); !strings.HasPrefix(got, "error") || state(s) != before {
			t.Error(line, got, state(s), before)
		}
	}
	talk(t, s, `
arrow 1 a 1 = ok
written aab = written yes
written baa = written yes
written bbbb = written yes
memory = error 4`)
}

// TestCurve: P10.1, curves and what are none.
func TestCurve(t *testing.T) {
	talk(t, vane.New(), `
curve 1 -3 3 = ok
high = high yes
roots = roots 0
curve -1 3 = ok
high = high no
roots = roots 1
curve 1 -5 5 = ok
high = high no
roots = roots 2
curve -1 2 = ok
roots = error 4
high = high no
curve 0 = ok
roots = error 4
high = high no
curve 100 0 0 0 0 0 0 = ok
high = high yes
curve -100 -100 -100 -100 -100 -100 -100 = ok
high = high no
roots = roots 0
curve 101 = error 80
curve -101 = error 80
curve 1 1 1 1 1 1 1000000 = error 80
curve = error 100
curve 1 1 1 1 1 1 1 1 = error 100
curve 1 x = error 100
high = high no`)
}

// TestRest: P10.1, polynomials of the rest and what are none.
func TestRest(t *testing.T) {
	talk(t, vane.New(), `
rest 6 1 1 1 = ok
steady = steady no
rest 2 3 1 = ok
steady = steady yes
rest 1 0 1 = ok
steady = steady no
rest -30 -30 = ok
steady = steady yes
rest 5 = ok
steady = steady yes
rest 1 5 10 10 5 1 = ok
steady = steady yes
rest 30 30 30 30 30 30 = ok
steady = steady no
rest 0 = error 90
rest 1 0 = error 90
rest 31 = error 90
rest -31 1 = error 90
rest 1 1000000 = error 90
rest = error 100
rest 1 1 1 1 1 1 1 = error 100
rest 1 x = error 100
steady = steady no`)
}
