package rounds_test

import (
	"slices"
	"strings"
	"testing"

	"girouette/api"
	"girouette/rounds"
)

// checkHomes compares Homes and Breaks with the definitions, and with what P4.6 says of the breaks.
func checkHomes(t *testing.T, p plan) {
	t.Helper()
	var want []string
	for team := range p.n {
		s := ""
		for round := range p.list {
			if _, home := p.opponent(round, team); home {
				s += "H"
			} else {
				s += "A"
			}
		}
		want = append(want, s)
	}
	homes, e := rounds.Homes(p.n, p.list)
	if e != api.OK || !slices.Equal(homes, want) {
		t.Error("Homes", p, homes, e)
	}
	breaks, e := rounds.Breaks(p.n, p.list)
	if e != api.OK || breaks != p.breaks() || breaks < p.n-2 {
		t.Error("Breaks", p, breaks, e)
	}
	if breaks == p.n-2 {
		checkPairs(t, homes)
	}
}

// checkPairs: each string is that of one team only, and with each the one with H and A exchanged is there.
func checkPairs(t *testing.T, homes []string) {
	t.Helper()
	exchange := strings.NewReplacer("H", "A", "A", "H")
	for i, s := range homes {
		if slices.Contains(homes[:i], s) || !slices.Contains(homes, exchange.Replace(s)) {
			t.Error(homes)
		}
	}
}

// TestHomes: P4.2 and P4.6.
func TestHomes(t *testing.T) {
	eachSchedule(t, func(p plan) { checkHomes(t, p) })
	homes, e := rounds.Homes(4, four.list)
	if e != api.OK || !slices.Equal(homes, []string{"HAH", "AHH", "HHA", "AAA"}) {
		t.Error(homes, e)
	}
	if breaks, e := rounds.Breaks(4, four.list); e != api.OK || breaks != 4 {
		t.Error(breaks, e)
	}
	if homes, e := rounds.Homes(2, [][][2]int{{{1, 0}}}); e != api.OK || !slices.Equal(homes, []string{"A", "H"}) {
		t.Error(homes, e)
	}
	if breaks, e := rounds.Breaks(2, [][][2]int{{{1, 0}}}); e != api.OK || breaks != 0 {
		t.Error(breaks, e)
	}
}

// TestMake: P4.2.
func TestMake(t *testing.T) {
	for _, n := range []int{2, 4, 6, 8, 10} {
		p := made(t, n, rounds.Make)
		if p.breaks() != n-2 {
			t.Error(p, p.breaks())
		}
		checkHomes(t, p)
	}
	for _, n := range append(far, 0, 1, 3, 5, 7, 9) {
		if l, e := rounds.Make(n); e != api.ErrArg || len(l) > 0 {
			t.Error(n, l, e)
		}
	}
}

// fewest is the least number of breaks of all schedules that play like this one, each game at either home.
func fewest(p plan) int {
	least := p.breaks()
	for set := range 1 << (p.n * (p.n - 1) / 2) {
		least = min(least, p.turned(set).breaks())
	}
	return least
}

// checkLeast: the number is want, and the schedule has that many breaks and plays alike.
func checkLeast(t *testing.T, p plan, want int) {
	t.Helper()
	least, list, e := rounds.Least(p.n, p.list)
	q := plan{p.n, list}
	if e != api.OK || least != want || !q.isSchedule() || q.breaks() != want {
		t.Error(p, least, list, e, want)
		return
	}
	for i, games := range list {
		for _, g := range games {
			if !shareGame([][2]int{g}, p.list[i]) {
				t.Error(p, list)
			}
		}
	}
	checkHomes(t, q)
}

// TestLeast: P4.2, by all homes.
func TestLeast(t *testing.T) {
	for _, n := range []int{2, 4} {
		for _, whole := range wholes(n) {
			for _, order := range permutations(n - 1) {
				p := whole.ordered(order)
				want := fewest(p)
				for set := range 1 << (n * (n - 1) / 2) {
					checkLeast(t, p.turned(set), want)
					checkLeast(t, p.turned(set).backwards(), want)
				}
			}
		}
	}
	for i, whole := range wholes(6) {
		for k, order := range permutations(5) {
			if k%31 != i {
				continue
			}
			p := whole.ordered(order)
			want := fewest(p)
			checkLeast(t, p, want)
			checkLeast(t, p.turned(k*271), want)
		}
	}
}

func TestLeastOfMoreTeams(t *testing.T) {
	for _, n := range []int{8, 10} {
		p := made(t, n, rounds.Make)
		if least, list, e := rounds.Least(n, p.list); e != api.ErrArg || least != 0 || len(list) > 0 {
			t.Error(n, least, list, e)
		}
		// What a schedule has to be comes first.
		if least, list, e := rounds.Least(n, p.list[1:]); e != api.ErrRounds || least != 0 || len(list) > 0 {
			t.Error(n, least, list, e)
		}
	}
	if _, _, e := rounds.Least(12, nil); e != api.ErrArg {
		t.Error(e)
	}
	for _, n := range []int{2, 4, 6} {
		checkLeast(t, made(t, n, rounds.Make), n-2)
	}
}

// TestWerra: P4.6, all homes of a schedule of six teams.
func TestWerra(t *testing.T) {
	p := made(t, 6, rounds.Make)
	reached := 0
	for set := range 1 << 15 {
		q := p.turned(set)
		breaks, e := rounds.Breaks(6, q.list)
		if e != api.OK || breaks < 4 {
			t.Error(q, breaks, e)
		}
		if breaks == 4 {
			homes, _ := rounds.Homes(6, q.list)
			checkPairs(t, homes)
			reached++
		}
	}
	if reached < 2 {
		t.Error(reached)
	}
}
