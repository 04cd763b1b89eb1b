package vane_test

import (
	"math"
	"slices"
	"strconv"
	"strings"
	"testing"

	"girouette/api"
	"girouette/vane"
)

// TestNil: P10.1 and P10.2, what is replied for no shop.
func TestNil(t *testing.T) {
	var s *vane.Shop
	for _, line := range []string{"", "#", "holes", "bar 0 1", "no line", "\n", strings.Repeat("x", 513), "homes 0", "written a", "arrow 0 a 0"} {
		if got := s.Do(line); got != "error 3" {
			t.Errorf("%q: %q", line, got)
		}
	}
	if s.Book() != "" || s.Bars() != nil || s.Cycle() != nil || s.Fork() != nil {
		t.Error(s.Book(), s.Bars(), s.Cycle(), s.Fork())
	}
}

// TestLong: P10.1, lines with too many bytes, and line feeds in lines: even those that had no reply.
func TestLong(t *testing.T) {
	s := vane.New()
	for _, line := range []string{
		strings.Repeat("x", api.MaxLine+1), strings.Repeat("#", api.MaxLine+1), strings.Repeat(" ", api.MaxLine+1), "written " + strings.Repeat("a", api.MaxLine-7), strings.Repeat("x", 1<<20), "#" + strings.Repeat("é", api.MaxLine/2),
		"\n", "\n\n", "#\n", "#\nholes", "holes\n", "\nholes", "bar 0 1\n", "bar 0 1\nbar 0 2", "bar\n0 1", "x\n", "curve 101\n", strings.Repeat("\n", api.MaxLine+1),
	} {
		if got := s.Do(line); got != "error 2" {
			t.Errorf("%.20q: %q", line, got)
		}
	}
	for line, want := range map[string]string{
		strings.Repeat("x", api.MaxLine):             "error 100",
		strings.Repeat("#", api.MaxLine):             "",
		"#" + strings.Repeat("é", api.MaxLine/2)[1:]: "",
		strings.Repeat(" ", api.MaxLine):             "error 100",
		"written " + strings.Repeat("a", 504):        "error 1",
		"written " + strings.Repeat("a", 503) + "c":  "error 100",
	} {
		if got := s.Do(line); got != want || len(line) != api.MaxLine {
			t.Errorf("%.20q: %q, want %q", line, got, want)
		}
	}
	if s.Book() != "" || len(s.Bars()) != 0 {
		t.Error(s.Book(), s.Bars())
	}
}

// TestRemarks: P10.1, lines without a reply.
func TestRemarks(t *testing.T) {
	s := vane.New()
	for _, line := range []string{"", "#", "# ", "#bar 0 1", "# bar 0 1", "##", "#\t\r\x00\xff", "#error"} {
		if got := s.Do(line); got != "" {
			t.Errorf("%q: %q", line, got)
		}
	}
	for _, line := range []string{" ", "  ", " #", "\t", "\r", "holes #", "bar 0 1 # two", "bar 0 1#", "\x00", "x#"} {
		if got := s.Do(line); got != "error 100" {
			t.Errorf("%q: %q", line, got)
		}
	}
	if s.Book() != "" || len(s.Bars()) != 0 {
		t.Error(s.Book(), s.Bars())
	}
}

// TestNumbers: P10.1, how numbers are written, and how great they are.
func TestNumbers(t *testing.T) {
	no := []string{
		"", "-", "--1", "+", "+1", "+0", "-0", "00", "01", "007", "-01", "1.0", "1e3", "0x1", "0b1", "1_0", "1,0", "½", "١", "一", "one", "a", "b", "1a", "a1", "1-", "1+1", "NaN", "inf", "\t1", "1\t", "1\r", "1\x00", "\x001",
		"1000001", "-1000001", "10000000", "0000001", strconv.Itoa(math.MaxInt), strconv.Itoa(math.MinInt), "9223372036854775808", "18446744073709551616", "18446744073709551617", strings.Repeat("9", 400), strings.Repeat("0", 400) + "1",
	}
	s := vane.New()
	for _, number := range no {
		for _, line := range []string{"pieces ", "pieces 1 ", "bar ", "bar 0 ", "teams ", "cycle ", "cycle 1 ", "cycle 1 2 ", "wind 1 1 1 ", "arrow 0 a ", "curve ", "curve 1 ", "rest ", "rest 1 ", "homes ", "rounds "} {
			if got := s.Do(line + number); got != "error 100" {
				t.Errorf("%q: %q", line+number, got)
			}
		}
		for _, line := range []string{"arrow " + number + " a 0", "bar " + number + " 1", "wind " + number + " 1 1 1", "wind 1 " + number + " 1 1"} {
			if got := s.Do(line); got != "error 100" {
				t.Errorf("%q: %q", line, got)
			}
		}
	}
	for _, number := range []string{"1000000", "-1000000", "999999", "-999999", "-1", "-10", "-99"} {
		for line, want := range map[string]string{"pieces ": "error 10", "bar 0 ": "error 1", "teams ": "error 1", "cycle 0 ": "error 50", "wind 0 0 0 ": "error 60", "arrow 0 a ": "error 1", "curve 101 ": "error 80", "rest 31 ": "error 90", "homes ": "error 1", "rounds ": "error 1"} {
			if got := s.Do(line + number); got != want && !(line == "arrow 0 a " && number == "-1") {
				t.Errorf("%q: %q, want %q", line+number, got, want)
			}
		}
	}
}

// TestBlanks: P10.1, one blank between any two words, and none before or behind them.
func TestBlanks(t *testing.T) {
	s := vane.New()
	for _, line := range []string{"holes", "labels", "homes 0", "rounds 4", "written ab", "memory", "bar 0 2", "pieces 3 5", "teams 4", "cycle 1 0", "wind 1 0 0 1", "arrow 0 a 0", "curve 1 2 3", "rest 1 2 3"} {
		spoiled := []string{" " + line, line + " ", line + "  ", "\t" + line, line + "\t", line + "\r", line + "\x00", "\ufeff" + line, line + ".", strings.ToUpper(line), strings.ToUpper(line[:1]) + line[1:], line[1:], line[:3], line[:3] + "x" + line[3:]}
		if strings.Contains(line, " ") {
			for _, blank := range []string{"", "  ", "\t", "\r", "\u00a0", "\v", ",", "-", "_", " \t", "\x00"} {
				spoiled = append(spoiled, strings.Replace(line, " ", blank, 1))
				spoiled = append(spoiled, strings.ReplaceAll(line, " ", blank))
			}
		}
		for _, bad := range spoiled {
			if got := s.Do(bad); got != "error 100" {
				t.Errorf("%q: %q", bad, got)
			}
		}
	}
	if s.Book() != "" || len(s.Bars()) != 0 {
		t.Error(s.Book(), s.Bars())
	}
}

// TestNames: P10.1, names that are none, and names with the wrong number of words.
func TestNames(t *testing.T) {
	s := vane.New()
	for _, name := range []string{"x", "ok", "error", "piece", "bars", "team", "cycles", "book", "fork", "Book", "Bars", "hole", "shells", "label", "draw", "break", "home", "period", "round", "write", "memories", "root", "vane", "0", "1", "-1", "a", "holesshell", "holes,shell", "bar0", "hôles"} {
		for _, behind := range []string{"", " 0", " 0 1", " a", " 0 a 0", " 1 1 1 1"} {
			if got := s.Do(name + behind); got != "error 100" {
				t.Errorf("%q: %q", name+behind, got)
			}
		}
	}
	for _, name := range []string{"holes", "shell", "labels", "above", "drawn", "breaks", "periods", "torsion", "memory", "high", "roots", "steady"} {
		for _, behind := range []string{" 0", " 1 2", " a", " " + name, " x y z"} {
			if got := s.Do(name + behind); got != "error 100" {
				t.Errorf("%q: %q", name+behind, got)
			}
		}
	}
	for _, name := range []string{"homes", "rounds"} {
		for _, behind := range []string{"", " a", " x", " 0 0", " 0 a", " 1 1 1"} {
			if got := s.Do(name + behind); got != "error 100" {
				t.Errorf("%q: %q", name+behind, got)
			}
		}
	}
}

// TestWritten: P10.1, words of the net, too long ones, and what are no words of letters.
func TestWritten(t *testing.T) {
	s := vane.New()
	hundred := strings.Repeat("ab", 50)
	for word, want := range map[string]string{
		"a": "written yes", "b": "written yes", "ab": "written yes", "aab": "written yes", "bb": "written no", "abba": "written no", "abaabaaab": "written yes",
		hundred: "written yes", hundred + "a": "error 1", hundred[:98] + "bb": "written no", hundred[:99] + "a": "written yes", strings.Repeat("b", 100): "written no", strings.Repeat("b", 101): "error 1", strings.Repeat("a", 500): "error 1",
		"": "error 100", "c": "error 100", "abc": "error 100", "cab": "error 100", "acb": "error 100", "A": "error 100", "aB": "error 100", "0": "error 100", "1": "error 100", "a,b": "error 100", "a b": "error 100", "a a": "error 100", " a": "error 100", "a ": "error 100",
		"ä": "error 100", "а": "error 100", "a\u0301": "error 100", "\xff": "error 100", "a\x00": "error 100", "\t": "error 100", hundred + "c": "error 100", "c" + hundred: "error 100", hundred + " a": "error 100",
	} {
		if got := s.Do("written " + word); got != want {
			t.Errorf("%q: %q, want %q", word, got, want)
		}
	}
}

// TestErrLineFirst: P10.1 and R1, words of the wrong kind and number come before what the words stand for.
func TestErrLineFirst(t *testing.T) {
	talk(t, vane.New(), `
pieces 32 x = error 100
pieces 0 0 0 0 0 0 0 0 0 0 0 = error 100
bar 7 x = error 100
bar 7 7 7 = error 100
teams 5 5 = error 100
cycle 0 x = error 100
wind 10 10 10 x = error 100
arrow 2 x 2 = error 100
arrow 2 a 02 = error 100
curve 101 x = error 100
rest 31 x = error 100
homes 99 x = error 100
rounds 99 99 = error 100`)
}

// TestArgBeforeState: P10.1 and R1, an edge is looked for only if it can be there.
func TestArgBeforeState(t *testing.T) {
	var lines []string
	for a := range 5 {
		for b := a + 1; b < 5; b++ {
			lines = append(lines, spelled("bar", a, b))
		}
	}
	s := after(t, lines...)
	for a := -2; a < 8; a++ {
		for b := -2; b < 8; b++ {
			want := "error 1"
			if slices.Contains(lines, spelled("bar", a, b)) {
				want = "error 5"
			}
			if got := s.Do(spelled("bar", a, b)); got != want {
				t.Error(a, b, got, want)
			}
		}
	}
}
