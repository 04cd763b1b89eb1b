package rounds_test

import (
	"math"
	"math/bits"
	"slices"
	"testing"

	"girouette/api"
	"girouette/rounds"
)

// checkComplete: what Complete returns of a beginning is a schedule that begins with it, or false.
func checkComplete(t *testing.T, p plan, want bool) {
	t.Helper()
	list, ok, e := rounds.Complete(p.n, p.list)
	if e != api.OK || ok != want || !ok && len(list) > 0 {
		t.Error(p, list, ok, e, want)
		return
	}
	q := plan{p.n, list}
	if ok && (!q.isSchedule() || !same(list[:len(p.list)], p.list)) {
		t.Error(p, list)
	}
}

// TestCompleteFour: P4.5 and P4.9, all lists of up to three rounds of two and four teams.
func TestCompleteFour(t *testing.T) {
	for _, n := range []int{2, 4} {
		lists := []plan{{n, nil}}
		for len(lists) > 0 {
			p := lists[0]
			lists = lists[1:]
			if !p.isBeginning() {
				if list, ok, e := rounds.Complete(n, p.list); e != api.ErrRounds || ok || len(list) > 0 {
					t.Error(p, list, ok, e)
				}
				continue
			}
			checkComplete(t, p, true)
			for _, games := range roundsOf(n) {
				lists = append(lists, plan{n, append(slices.Clone(p.list), games)})
			}
		}
	}
}

// set is some of at most 128 rounds.
type set [2]uint64

func (s set) with(i int) set {
	s[i/64] |= 1 << (i % 64)
	return s
}

// eachBeginning calls do for the beginnings with rising rounds of n teams, lesser teams at home, and whether a schedule has all those rounds; leave is which ones are not looked at.
func eachBeginning(n int, leave func(list []int) bool, do func(p plan, ok bool)) {
	all := pairingsOf(upTo(n))
	var whole []set
	for _, p := range wholes(n) {
		var s set
		for _, games := range p.list {
			s = s.with(slices.IndexFunc(all, func(l [][2]int) bool { return slices.Equal(l, games) }))
		}
		whole = append(whole, s)
	}
	var add func(list []int, s set, in []set)
	add = func(list []int, s set, in []set) {
		p := plan{n: n}
		for _, i := range list {
			p.list = append(p.list, all[i])
		}
		if leave(list) {
			return
		}
		do(p, len(in) > 0)
		for i, games := range all {
			if len(list) > 0 && i <= list[len(list)-1] || slices.ContainsFunc(p.list, func(l [][2]int) bool { return shareGame(l, games) }) {
				continue
			}
			more := set{}.with(i)
			with := slices.DeleteFunc(slices.Clone(in), func(w set) bool { return bits.OnesCount64(w[0]&more[0])+bits.OnesCount64(w[1]&more[1]) == 0 })
			add(append(slices.Clone(list), i), s.with(i), with)
		}
	}
	add(nil, set{}, whole)
}

// TestCompleteSix: P4.5, all beginnings of six teams with rising rounds.
func TestCompleteSix(t *testing.T) {
	many := map[bool]int{}
	eachBeginning(6, func([]int) bool { return false }, func(p plan, ok bool) {
		many[ok]++
		checkComplete(t, p, ok)
		other := upTo(len(p.list))
		slices.Reverse(other)
		checkComplete(t, p.ordered(other).turned(many[ok]*37).backwards(), ok)
	})
	// Ten ways to make two sets of three teams, and for each two sets of three rounds with all games between them, are not to be completed, and nor is what is more than these.
	if many[false] != 20 {
		t.Error(many)
	}
}

// TestCompleteEight: P4.5, all beginnings of eight teams with up to two rising rounds, some with three, and all that are longer than these.
func TestCompleteEight(t *testing.T) {
	many, turn := map[bool]int{}, 0
	leave := func(list []int) bool {
		turn++
		return len(list) == 3 && turn%37 != 0
	}
	eachBeginning(8, leave, func(p plan, ok bool) {
		// Only with five rounds may there be no others that go with them.
		if len(p.list) != 5 && !ok {
			t.Error(p)
		}
		many[ok]++
		checkComplete(t, p, ok)
		other := upTo(len(p.list))
		slices.Reverse(other)
		checkComplete(t, p.ordered(other).turned(turn*37).backwards(), ok)
	})
	if many[true] < 1000 || many[false] < 100 {
		t.Error(many)
	}
}

// TestThrees: P4.9, three rounds of six teams that make two sets of three with all games between them.
func TestThrees(t *testing.T) {
	for i, names := range permutations(6) {
		p := plan{n: 6}
		for _, games := range threes.list {
			var l [][2]int
			for _, g := range games {
				l = append(l, [2]int{names[g[0]], names[g[1]]})
			}
			p.list = append(p.list, l)
		}
		checkComplete(t, p.turned(i), false)
		checkComplete(t, p.ordered([]int{1, 2, 0}), false)
		checkComplete(t, plan{6, p.list[:2]}, true)
	}
}

func TestCompleteExamples(t *testing.T) {
	checkComplete(t, threes, false)
	for n := 2; n <= 8; n += 2 {
		p := made(t, n, rounds.Make)
		for k := range n {
			checkComplete(t, plan{n, p.list[:k]}, true)
			checkComplete(t, plan{n, p.list[n-1-k:]}, true)
		}
	}
}

func TestCompleteErrors(t *testing.T) {
	for _, c := range []struct {
		plan
		want api.Errno
	}{
		{plan{10, nil}, api.ErrArg},
		{plan{10, [][][2]int{{{0, 0}}}}, api.ErrArg},
		{plan{0, nil}, api.ErrArg},
		{plan{3, nil}, api.ErrArg},
		{plan{7, nil}, api.ErrArg},
		{plan{9, nil}, api.ErrArg},
		{plan{12, nil}, api.ErrArg},
		{plan{math.MinInt, nil}, api.ErrArg},
		{plan{math.MaxInt, four.list}, api.ErrArg},
		{plan{-2, four.list}, api.ErrArg},
		{plan{2, [][][2]int{{}}}, api.ErrRounds},
		{plan{2, [][][2]int{{{0, 1}}, {{0, 1}}}}, api.ErrRounds},
		{plan{2, [][][2]int{{{0, 1}}, {{1, 0}}}}, api.ErrRounds},
		{plan{4, [][][2]int{{{0, 1}}}}, api.ErrRounds},
		{plan{4, [][][2]int{{{0, 1}, {2, 2}}}}, api.ErrRounds},
		{plan{4, [][][2]int{{{0, 1}, {2, 4}}}}, api.ErrRounds},
		{plan{4, [][][2]int{four.list[0], four.list[0]}}, api.ErrRounds},
		{plan{4, [][][2]int{four.list[0], {{3, 2}, {1, 0}}}}, api.ErrRounds},
		{plan{4, slices.Concat(four.list, four.list[:1])}, api.ErrRounds},
		{plan{6, four.list}, api.ErrRounds},
		{plan{6, [][][2]int{threes.list[0], {{0, 3}, {1, 5}, {2, 4}}}}, api.ErrRounds},
		{plan{8, make([][][2]int, 7)}, api.ErrRounds},
		{plan{8, make([][][2]int, 100000)}, api.ErrRounds},
		{plan{8, [][][2]int{make([][2]int, 100000)}}, api.ErrRounds},
		{plan{8, [][][2]int{{{0, 1}, {2, 3}, {4, 5}, {math.MinInt, math.MaxInt}}}}, api.ErrRounds},
	} {
		if list, ok, e := rounds.Complete(c.n, c.list); e != c.want || ok || len(list) > 0 {
			t.Error(c, list, ok, e)
		}
	}
}
