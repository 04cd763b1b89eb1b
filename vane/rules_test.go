package vane_test

import (
	"slices"
	"strings"
	"testing"

	"girouette/api"
	"girouette/vane"
)

// TestMemory: R4, what is done to a result is nothing to the shop, nor to other results.
func TestMemory(t *testing.T) {
	for i := range len(changes) + 1 {
		s := after(t, changes[:i]...)
		before := state(s)
		bars, cycle := s.Bars(), s.Cycle()
		otherBars, otherCycle, book := s.Bars(), s.Cycle(), s.Book()
		wantBars, wantCycle := slices.Clone(otherBars), slices.Clone(otherCycle)
		bars, cycle = bars[:cap(bars)], cycle[:cap(cycle)]
		for k := range bars {
			bars[k] = [2]int{-99, -99}
		}
		for k := range cycle {
			cycle[k] = -99
		}
		if state(s) != before || !slices.Equal(otherBars, wantBars) || !slices.Equal(otherCycle, wantCycle) {
			t.Error(i, state(s), before, otherBars, otherCycle)
		}
		for _, line := range []string{"bar 0 1", "bar 2 3", "cycle 1 0", "cycle 3 2 0 1"} {
			s.Do(line)
		}
		if !slices.Equal(otherBars, wantBars) || !slices.Equal(otherCycle, wantCycle) || !strings.HasPrefix(s.Book(), book) {
			t.Error(i, otherBars, otherCycle)
		}
	}
}

// TestAgain: R7, the same lines told to several shops, in turn.
func TestAgain(t *testing.T) {
	for seed := range uint64(40) {
		lines := someLines(60, seed+60000)
		one, other := vane.New(), vane.New()
		for _, line := range lines {
			if got, want := one.Do(line), other.Do(line); got != want {
				t.Error(seed, line, got, want)
			}
		}
		third := vane.New()
		replies(third, lines)
		if state(one) != state(other) || state(one) != state(third) {
			t.Error(seed, state(one), state(other), state(third))
		}
		text := strings.Join(lines, "\n")
		got, e := vane.Run(text)
		if again, f := vane.Run(text); got != again || e != f {
			t.Error(seed, got, again, e, f)
		}
	}
}

// TestAskedTwice: P10.5 and R7, questions that are asked again give the same replies.
func TestAskedTwice(t *testing.T) {
	s := after(t, changes...)
	first := replies(s, questions)
	for range 3 {
		if got := replies(s, questions); !slices.Equal(got, first) {
			t.Error(got, first)
		}
		asked := slices.Clone(questions)
		slices.Reverse(asked)
		got := replies(s, asked)
		slices.Reverse(got)
		if !slices.Equal(got, first) {
			t.Error(got, first)
		}
	}
}

// TestEveryCallEnds: P1, with lines and texts that make no sense.
func TestEveryCallEnds(t *testing.T) {
	parts := []string{"", " ", "#", "\n", "\x00", "\xff", "é", "-", "0", "1", "-1", "1000000", "9223372036854775808", "a", "b", "holes", "pieces", "bar", "teams", "cycle", "wind", "arrow", "curve", "rest", "homes", "rounds", "written", "memory", "x"}
	s := vane.New()
	for seed := range uint64(20000) {
		next := chance(seed)
		var words []string
		for range next(14) {
			words = append(words, parts[next(len(parts))])
		}
		for _, between := range []string{" ", "", "\n"} {
			line := strings.Join(words, between)
			reply := s.Do(line)
			if strings.Contains(line, "\n") != (reply == "error 2") {
				t.Errorf("%q: %q", line, reply)
			}
			if _, e := vane.Run(line); e != api.OK {
				t.Errorf("%q: %d", line, e)
			}
		}
	}
}

// TestReplies: P10.1 and P1, replies have the form that the tables say.
func TestReplies(t *testing.T) {
	known := []string{"1", "2", "4", "5", "8", "10", "20", "40", "50", "60", "70", "80", "90", "100"}
	for seed := range uint64(100) {
		s := vane.New()
		for _, line := range someLines(80, seed+70000) {
			reply := s.Do(line)
			number, refused := strings.CutPrefix(reply, "error ")
			name, _, _ := strings.Cut(line, " ")
			switch {
			case line == "" || line[0] == '#':
				if reply != "" {
					t.Errorf("%q: %q", line, reply)
				}
			case refused:
				if !slices.Contains(known, number) {
					t.Errorf("%q: %q", line, reply)
				}
			case isCommand(line):
				if reply != "ok" {
					t.Errorf("%q: %q", line, reply)
				}
			default:
				if reply != name && !strings.HasPrefix(reply, name+" ") || strings.HasSuffix(reply, " ") || strings.Contains(reply, "  ") {
					t.Errorf("%q: %q", line, reply)
				}
			}
		}
	}
}
