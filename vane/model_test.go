package vane_test

import (
	"fmt"
	"maps"
	"regexp"
	"slices"
	"strconv"
	"strings"
	"testing"

	"girouette/api"
	"girouette/bern"
	"girouette/cycles"
	"girouette/labels"
	"girouette/orders"
	"girouette/rounds"
	"girouette/shells"
	"girouette/shifts"
	"girouette/sofic"
	"girouette/steady"
	"girouette/vane"
)

// model is a shop as the tables say it, by patterns of lines and the calls of the other layers: the numbers of the last command of each kind, and what must add up.
type model struct {
	last  map[string][]int
	bars  map[[2]int]bool
	net   [2][2]int
	games [][][2]int
	book  string
}

// newModel is the model of a new shop.
func newModel() *model {
	return &model{
		last:  map[string][]int{"pieces": {3, 5, 6}, "cycle": {1, 2, 0}, "wind": {1, 1, 1, 0}, "curve": {1}, "rest": {1, 1}},
		bars:  map[[2]int]bool{},
		net:   [2][2]int{{0, 1}, {0, -1}},
		games: [][][2]int{{{0, 1}}},
	}
}

// number is the pattern of a number that is not too far from 0.
const number = `(0|-?[1-9][0-9]{0,5}|-?1000000)`

var (
	commandPattern  = regexp.MustCompile(`^(pieces|bar|teams|cycle|wind|curve|rest)(( ` + number + `)+)$`)
	arrowPattern    = regexp.MustCompile(`^arrow ` + number + ` ([ab]) ` + number + `$`)
	plainPattern    = regexp.MustCompile(`^(holes|shell|labels|above|drawn|breaks|periods|torsion|memory|high|roots|steady)$`)
	numberedPattern = regexp.MustCompile(`^(homes|rounds) ` + number + `$`)
	writtenPattern  = regexp.MustCompile(`^written ([ab]+)$`)
)

// whole is the number that a word is.
func whole(word string) int {
	n, err := strconv.Atoi(word)
	if err != nil {
		panic(err)
	}
	return n
}

// edges is the bars of a model, rising.
func (m *model) edges() [][2]int {
	return slices.SortedFunc(maps.Keys(m.bars), func(a, b [2]int) int { return 10*(a[0]-b[0]) + a[1] - b[1] })
}

// rows is the matrix of a model.
func rows(numbers []int) [][]int {
	return [][]int{numbers[:2], numbers[2:]}
}

// command is what a command with these numbers replies; it is done if that is OK.
func (m *model) command(name string, numbers []int) api.Errno {
	most := map[string][2]int{"pieces": {1, 10}, "bar": {2, 2}, "teams": {1, 1}, "cycle": {2, 8}, "wind": {4, 4}, "curve": {1, 7}, "rest": {1, 6}}[name]
	if len(numbers) < most[0] || len(numbers) > most[1] {
		return api.ErrLine
	}
	e := api.OK
	switch name {
	case "pieces":
		e = shells.Check(5, numbers)
	case "bar":
		bar := [2]int{numbers[0], numbers[1]}
		if min(bar[0], bar[1]) < 0 || max(bar[0], bar[1]) > 4 || bar[0] >= bar[1] {
			return api.ErrArg
		}
		if m.bars[bar] {
			return api.ErrState
		}
		m.bars[bar] = true
	case "teams":
		var games [][][2]int
		if games, e = rounds.Make(numbers[0]); e == api.OK {
			m.games = games
		}
	case "cycle":
		e = cycles.Check(numbers)
	case "wind":
		e = shifts.Check(rows(numbers))
	case "curve":
		e = bern.Check(numbers)
	case "rest":
		e = steady.Check(numbers)
	}
	if e == api.OK {
		m.last[name] = numbers
	}
	return e
}

// arrow is what the line of an arrow replies.
func (m *model) arrow(from, letter, to int) api.Errno {
	if from < 0 || from > 1 || to < -1 || to > 1 {
		return api.ErrArg
	}
	net := m.net
	net[from][letter] = to
	e := sofic.Check(net[:])
	if e == api.OK {
		m.net = net
	}
	return e
}

// truth is a word for a result.
func truth(ok bool, e api.Errno) (string, api.Errno) {
	return map[bool]string{true: " yes", false: " no"}[ok], e
}

// amount is numbers, each with a blank before it.
func amount[T any](e api.Errno, numbers ...T) (string, api.Errno) {
	list := ""
	for _, n := range numbers {
		list += fmt.Sprint(" ", n)
	}
	return list, e
}

// plain is what comes behind the name in the reply to a question without a number.
func (m *model) plain(name string) (string, api.Errno) {
	teams := len(m.games) + 1
	switch name {
	case "holes":
		list, e := shells.Hollows(5, m.last["pieces"])
		return amount(e, list...)
	case "shell":
		_, ok, e := shells.Shell(5, m.last["pieces"])
		return truth(ok, e)
	case "labels":
		many, e := labels.Count(5, m.edges())
		return amount(e, many)
	case "above":
		many, e := orders.Count(5, m.edges())
		return amount(e, many)
	case "drawn":
		_, ok, e := orders.Draw(5, m.edges())
		return truth(ok, e)
	case "breaks":
		many, e := rounds.Breaks(teams, m.games)
		return amount(e, many)
	case "periods":
		list, e := cycles.Periods(m.last["cycle"])
		return amount(e, list...)
	case "torsion":
		list, e := shifts.Torsion(rows(m.last["wind"]))
		return amount(e, list...)
	case "memory":
		many, ok, e := sofic.Memory(m.net[:])
		if e == api.OK && !ok {
			e = api.ErrNone
		}
		return amount(e, many)
	case "high":
		ok, _, e := bern.Positive(m.last["curve"])
		return truth(ok, e)
	case "roots":
		many, e := bern.Count(m.last["curve"])
		return amount(e, many)
	}
	ok, e := steady.IsSteady(m.last["rest"])
	return truth(ok, e)
}

// numbered is what comes behind the name in the reply to a question with a number.
func (m *model) numbered(name string, n int) (string, api.Errno) {
	if name == "rounds" {
		many, e := shifts.Rounds(rows(m.last["wind"]), n)
		return amount(e, many)
	}
	homes, e := rounds.Homes(len(m.games)+1, m.games)
	if n < 0 || n >= len(homes) {
		return "", api.ErrArg
	}
	return amount(e, homes[n])
}

// changed is what a line of the first table replies, or false if it is none.
func (m *model) changed(line string) (api.Errno, bool) {
	if parts := commandPattern.FindStringSubmatch(line); parts != nil {
		var numbers []int
		for _, word := range strings.Fields(parts[2]) {
			numbers = append(numbers, whole(word))
		}
		return m.command(parts[1], numbers), true
	}
	if parts := arrowPattern.FindStringSubmatch(line); parts != nil {
		return m.arrow(whole(parts[1]), int(parts[2][0]-'a'), whole(parts[3])), true
	}
	return api.OK, false
}

// asked is the reply to a line of the second table.
func (m *model) asked(line string) (string, api.Errno) {
	name, _, _ := strings.Cut(line, " ")
	text, e := "", api.ErrLine
	if plainPattern.MatchString(line) {
		text, e = m.plain(name)
	} else if parts := numberedPattern.FindStringSubmatch(line); parts != nil {
		text, e = m.numbered(name, whole(parts[2]))
	} else if parts := writtenPattern.FindStringSubmatch(line); parts != nil && len(parts[1]) > 100 {
		e = api.ErrArg
	} else if parts != nil {
		text, e = truth(sofic.Is(m.net[:], parts[1]))
	}
	return name + text, e
}

// do is the reply to a line.
func (m *model) do(line string) string {
	if len(line) > 512 || strings.Contains(line, "\n") {
		return "error 2"
	}
	if line == "" || line[0] == '#' {
		return ""
	}
	text := "ok"
	e, ok := m.changed(line)
	if ok && e == api.OK {
		m.book += line + "\n"
	}
	if !ok {
		text, e = m.asked(line)
	}
	if e != api.OK {
		return fmt.Sprint("error ", int(e))
	}
	return text
}

// agree compares a shop with a model of it.
func agree(t *testing.T, s *vane.Shop, m *model) {
	t.Helper()
	if s.Book() != m.book || !slices.Equal(s.Bars(), m.edges()) || !slices.Equal(s.Cycle(), m.last["cycle"]) {
		t.Errorf("%q %v %v, want %q %v %v", s.Book(), s.Bars(), s.Cycle(), m.book, m.edges(), m.last["cycle"])
	}
	for _, q := range questions {
		if got, want := s.Do(q), m.do(q); got != want {
			t.Errorf("%q: %q, want %q", q, got, want)
		}
	}
}

// TestModel: P10.1 and P10.2, shops and their models that are told any lines.
func TestModel(t *testing.T) {
	counts := map[string]int{}
	for seed := range uint64(400) {
		s, m := vane.New(), newModel()
		for _, line := range someLines(60, seed) {
			got, want := s.Do(line), m.do(line)
			if got != want {
				t.Errorf("%d %q: %q, want %q", seed, line, got, want)
			}
			name, _, _ := strings.Cut(line, " ")
			if name = name + ": " + got; isCommand(line) || strings.HasPrefix(got, "error") {
				counts[name]++
			}
		}
		agree(t, s, m)
	}
	for _, often := range []string{
		"pieces: ok", "pieces: error 10", "bar: ok", "bar: error 1", "bar: error 5", "teams: ok", "teams: error 1", "cycle: ok", "cycle: error 50", "wind: ok", "wind: error 60", "arrow: ok", "arrow: error 1", "arrow: error 70", "arrow: error 100", "curve: ok", "curve: error 80",
		"rest: ok", "rest: error 90", "labels: error 20", "homes: error 1", "rounds: error 1", "written: error 1", "memory: error 4", "memory: error 5", "roots: error 4", "pieces: error 100", "bar: error 100", "teams: error 100", "cycle: error 100", "wind: error 100", "curve: error 100", "rest: error 100",
	} {
		if counts[often] < 3 {
			t.Error(often, counts[often])
		}
	}
}

// TestModelOfScripts: P10.3, with texts whose lines do anything.
func TestModelOfScripts(t *testing.T) {
	for seed := range uint64(60) {
		m, want := newModel(), ""
		lines := someLines(200, seed+1000)
		for _, line := range lines {
			if reply := m.do(line); reply != "" {
				want += reply + "\n"
			}
		}
		for _, end := range []string{"", "\n", "\n\n", "\n#"} {
			if got, e := vane.Run(strings.Join(lines, "\n") + end); got != want || e != api.OK {
				t.Error(seed, got, e, want)
			}
		}
	}
}
