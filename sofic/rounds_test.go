package sofic_test

import (
	"math/bits"
	"strings"
	"testing"

	"girouette/api"
	"girouette/sofic"
)

// TestRoundWords: P7.6, Rounds and Signed by their definitions. A word that is written six times meets one of five nodes twice.
func TestRoundWords(t *testing.T) {
	for i, net := range someNets(4) {
		for m := 1; m <= 10; m++ {
			if m > 5 && i%10 > 0 {
				continue
			}
			want, sum := 0, 0
			for _, word := range allWords(m) {
				if isWritten(net, strings.Repeat(word, 6)) {
					want++
				}
				sum += signs(formOf(net), word)
			}
			if got, e := sofic.Rounds(net, m); got != want || e != api.OK {
				t.Error("Rounds", net, m, got, e, want)
			}
			if got, e := sofic.Signed(net, m); got != sum || e != api.OK {
				t.Error("Signed", net, m, got, e, sum)
			}
		}
	}
}

// signs is the sum of the signs of the sets that a word exchanges, of which the exchanges of two are made one after the other.
func signs(net [][2]int, word string) int {
	sum := 0
nextSet:
	for set := 1; set < 1<<len(net); set++ {
		to := map[int]int{}
		used := 0
		for node := range net {
			if set>>node&1 == 1 {
				to[node] = follow(net, node, word)
				if to[node] < 0 || set>>to[node]&1 == 0 || used>>to[node]&1 == 1 {
					continue nextSet
				}
				used |= 1 << to[node]
			}
		}
		sign := 1
		for node := range net {
			for to[node] != node && set>>node&1 == 1 {
				other := to[node]
				to[node], to[other] = to[other], to[node]
				sign = -sign
			}
		}
		if bits.OnesCount(uint(set))%2 == 0 {
			sign = -sign
		}
		sum += sign
	}
	return sum
}

// TestSignedIsRounds: P7.9.
func TestSignedIsRounds(t *testing.T) {
	for i, net := range append(someNets(1), allNets(3)...) {
		for m := 1; m <= 10; m++ {
			if m > 6 && i%10 > 0 {
				continue
			}
			rounds, e := sofic.Rounds(net, m)
			signed, f := sofic.Signed(net, m)
			if rounds != signed || e != api.OK || f != api.OK {
				t.Error(net, m, rounds, e, signed, f)
			}
		}
	}
}

// TestKnownRounds: P7.6, numbers that are known.
func TestKnownRounds(t *testing.T) {
	for _, c := range []struct {
		net  [][2]int
		want []int
	}{
		{golden, []int{1, 3, 4, 7, 11, 18, 29, 47, 76, 123}},
		{even, []int{2, 2, 5, 6, 12, 17, 30, 46, 77, 122}},
		{[][2]int{{0, 0}}, []int{2, 4, 8, 16, 32, 64, 128, 256, 512, 1024}},
		{[][2]int{{-1, 0}}, []int{1, 1, 1, 1, 1, 1, 1, 1, 1, 1}},
		{[][2]int{{1, -1}, {-1, 0}}, []int{0, 2, 0, 2, 0, 2, 0, 2, 0, 2}},
		{apart, []int{2, 2, 2, 2, 2, 2, 2, 2, 2, 2}},
	} {
		for i, want := range c.want {
			if got, e := sofic.Rounds(c.net, i+1); got != want || e != api.OK {
				t.Error(c.net, i+1, got, e, want)
			}
		}
	}
}
