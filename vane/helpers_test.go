package vane_test

import (
	"fmt"
	"slices"
	"strconv"
	"strings"
	"testing"

	"girouette/vane"
)

// questions is a question of each kind, those with a number and words too.
var questions = []string{
	"holes", "shell", "labels", "above", "drawn", "breaks", "homes 0", "homes 1", "homes 3", "homes 9", "periods", "rounds 0", "rounds 1", "rounds 4", "rounds 10", "torsion",
	"written a", "written b", "written abba", "written bb", "written aabaab", "memory", "high", "roots", "steady",
}

// talk is lines, each with its reply behind " = ".
func talk(t *testing.T, s *vane.Shop, script string) {
	t.Helper()
	for _, said := range strings.Split(strings.Trim(script, "\n"), "\n") {
		line, want, _ := strings.Cut(said, " = ")
		if got := s.Do(line); got != want {
			t.Errorf("%q: %q, want %q", line, got, want)
		}
	}
}

// after is a shop to which lines were told, all of which it must do.
func after(t *testing.T, lines ...string) *vane.Shop {
	t.Helper()
	s := vane.New()
	for _, line := range lines {
		if got := s.Do(line); got != "ok" {
			t.Errorf("%q: %q", line, got)
		}
	}
	return s
}

// replies is what a shop replies to lines.
func replies(s *vane.Shop, lines []string) []string {
	list := make([]string, len(lines))
	for i, line := range lines {
		list[i] = s.Do(line)
	}
	return list
}

// state is all that can be learned of a shop.
func state(s *vane.Shop) string {
	return fmt.Sprintf("%q %q %v %v", replies(s, questions), s.Book(), s.Bars(), s.Cycle())
}

// isCommand is whether a line begins with the name of one of the first table.
func isCommand(line string) bool {
	name, _, _ := strings.Cut(line, " ")
	return slices.Contains([]string{"pieces", "bar", "teams", "cycle", "wind", "arrow", "curve", "rest"}, name)
}

// spelled is a line of a name and numbers.
func spelled(name string, numbers ...int) string {
	for _, number := range numbers {
		name += " " + strconv.Itoa(number)
	}
	return name
}

// chance is a sequence of numbers that follow from a seed.
func chance(seed uint64) func(below int) int {
	return func(below int) int {
		seed = seed*6364136223846793005 + 1442695040888963407
		return int((seed >> 33) % uint64(below))
	}
}

// some is as many numbers from least to most.
func some(next func(int) int, many, least, most int) []int {
	numbers := make([]int, many)
	for i := range numbers {
		numbers[i] = least + next(most-least+1)
	}
	return numbers
}

// somePieces is sets of corners that are often a complex.
func somePieces(next func(int) int) []int {
	var list []int
	for range 1 + next(12) {
		set := 1 + next(31)
		if next(20) == 0 {
			list = append(list, set, next(40)-3)
		}
		apart := !slices.ContainsFunc(list, func(other int) bool { return set&other == set || set&other == other })
		if apart {
			list = append(list, set)
		}
	}
	if next(20) != 0 {
		slices.Sort(list)
	}
	return list
}

// someCycle is numbers that are often a cycle.
func someCycle(next func(int) int) []int {
	size := 1 + next(9)
	way := some(next, size, 0, 0)
	for i := range way {
		way[i] = i
		k := next(i + 1)
		way[i], way[k] = way[k], way[i]
	}
	cycle := some(next, size, 0, 0)
	for i, from := range way {
		cycle[from] = way[(i+1)%size]
	}
	if next(8) == 0 {
		cycle[next(size)] = next(10) - 1
	}
	return cycle
}

// someCommand is a line of the first table that is done or refused.
func someCommand(next func(int) int) string {
	switch next(9) {
	case 0:
		return spelled("pieces", somePieces(next)...)
	case 1, 2:
		return spelled("bar", some(next, 2, -1, 5)...)
	case 3:
		return spelled("teams", next(13)-1)
	case 4:
		return spelled("cycle", someCycle(next)...)
	case 5:
		return spelled("wind", some(next, 4, -next(2), 3+next(8))...)
	case 6:
		letter := string("abababac"[next(8)])
		return fmt.Sprint("arrow ", next(3)-next(2), " ", letter, " ", next(4)-1-next(2))
	case 7:
		return spelled("curve", some(next, 1+next(8), -next(102), next(102))...)
	}
	return spelled("rest", some(next, 1+next(7), -next(3), next(32))...)
}

// someQuestion is a line of the second table.
func someQuestion(next func(int) int) string {
	switch next(10) {
	case 0:
		return spelled("homes", next(13)-1)
	case 1:
		return spelled("rounds", next(13)-1)
	case 2:
		word := ""
		for range 1 + next(12)*next(12) {
			word += string("aaabbbb"[next(7)])
		}
		return "written " + word
	}
	return questions[next(len(questions))]
}

// spoiled is a line with something in it that is not there in others.
func spoiled(next func(int) int, line string) string {
	extras := []string{" ", "0", "-", "+", "#", "\t", "\r", "1", " 1", " a", ".0", "x", "_", "\x00", "é", "\xff", "000000"}
	at, extra := next(len(line)+1), extras[next(len(extras))]
	if next(4) == 0 && at < len(line) {
		return line[:at] + line[at+1:]
	}
	return line[:at] + extra + line[at:]
}

// someLine is a line of any kind.
func someLine(next func(int) int) string {
	line := ""
	switch next(12) {
	case 0:
		return []string{"", "#", "# bar 0 1", "#holes", " ", "ok", "error 1", "Holes", "bars 0 1"}[next(9)]
	case 1, 2, 3, 4:
		line = someQuestion(next)
	default:
		line = someCommand(next)
	}
	if next(6) == 0 {
		line = spoiled(next, line)
	}
	return line
}

// someLines is as many lines.
func someLines(many int, seed uint64) []string {
	next := chance(seed)
	lines := make([]string, many)
	for i := range lines {
		lines[i] = someLine(next)
	}
	return lines
}
