package sofic_test

import (
	"testing"

	"girouette/api"
	"girouette/sofic"
)

// checkIs compares Check with the definition of a net of letters.
func checkIs(t *testing.T, net [][2]int) {
	t.Helper()
	want := api.ErrSofic
	if isNet(net) {
		want = api.OK
	}
	if e := sofic.Check(net); e != want {
		t.Error(net, e, want)
	}
}

// TestCheck: P7.1.
func TestCheck(t *testing.T) {
	for _, net := range someNets(1) {
		if e := sofic.Check(net); e != api.OK {
			t.Error(net, e)
		}
	}
	for _, net := range noNets {
		if e := sofic.Check(net); e != api.ErrSofic {
			t.Error(len(net), e)
		}
	}
}

// TestCheckTables: P7.1, all tables of up to three rows with numbers from below those of nodes to above them.
func TestCheckTables(t *testing.T) {
	for k := 1; k <= 3; k++ {
		eachTable(k, -2, k, func(net [][2]int) { checkIs(t, net) })
	}
	for k := 4; k <= 5; k++ {
		for seed := range uint64(3000) {
			next := chance(seed)
			net := make([][2]int, k)
			for i := range net {
				net[i] = [2]int{next(k+1) - 1, next(k+1) - 1}
			}
			checkIs(t, net)
		}
	}
}

// TestCheckSizes: P7.1, rings of any size.
func TestCheckSizes(t *testing.T) {
	for k := range 10 {
		net := make([][2]int, k)
		for i := range net {
			net[i] = [2]int{(i + 1) % k, -1}
		}
		checkIs(t, net)
	}
}

// TestCheckNumbers: P7.1 and R9, a number in each place of a net.
func TestCheckNumbers(t *testing.T) {
	for k := 1; k <= 5; k++ {
		for i := range k {
			for letter := range 2 {
				for _, number := range append([]int{0, 1, 2, 3, 4, 5, 6}, far...) {
					net := make([][2]int, k)
					for j := range net {
						net[j] = [2]int{(j + 1) % k, (j + 1) % k}
					}
					net[i][letter] = number
					checkIs(t, net)
				}
			}
		}
	}
}

// TestHangs: P7.1.
func TestHangs(t *testing.T) {
	many := 0
	for _, net := range append(someNets(1), allNets(3)...) {
		got, e := sofic.Hangs(net)
		if want := hangs(net); e != api.OK || got != want {
			t.Error(net, got, e)
		}
		if got {
			many++
		}
	}
	if many < 100 {
		t.Error(many)
	}
	for _, net := range [][][2]int{{{0, -1}}, even, golden, {{1, -1}, {-1, 2}, {3, -1}, {-1, 4}, {0, -1}}} {
		if got, e := sofic.Hangs(net); !got || e != api.OK {
			t.Error(net, got, e)
		}
	}
	for _, net := range [][][2]int{apart, {{0, 1}, {-1, 1}}, {{1, -1}, {1, 0}, {2, 1}}, {{1, 0}, {0, -1}, {3, -1}, {2, 0}}} {
		if got, e := sofic.Hangs(net); got || e != api.OK {
			t.Error(net, got, e)
		}
	}
}
