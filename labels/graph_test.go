package labels_test

import (
	"math"
	"testing"

	"girouette/api"
	"girouette/labels"
)

func TestCheck(t *testing.T) {
	eachSmall(5, func(g graph) {
		if e := labels.Check(g.n, g.edges); e != api.OK {
			t.Error(g, e)
		}
	})
	for _, c := range []struct {
		n     int
		edges [][2]int
		want  api.Errno
	}{
		{2, [][2]int{{0, 1}}, api.OK},
		{7, [][2]int{{5, 6}}, api.OK},
		{1, [][2]int{{0, 1}}, api.ErrArg},
		{8, [][2]int{{0, 1}}, api.ErrArg},
		{-1, nil, api.ErrArg},
		{math.MinInt, nil, api.ErrArg},
		{math.MaxInt, [][2]int{{0, 1}}, api.ErrArg},
		{2, nil, api.ErrGraph},
		{2, [][2]int{}, api.ErrGraph},
		{2, [][2]int{{1, 0}}, api.ErrGraph},
		{2, [][2]int{{0, 0}}, api.ErrGraph},
		{2, [][2]int{{1, 1}}, api.ErrGraph},
		{2, [][2]int{{0, 2}}, api.ErrGraph},
		{2, [][2]int{{-1, 0}}, api.ErrGraph},
		{3, [][2]int{{-1, 2}}, api.ErrGraph},
		{7, [][2]int{{0, 7}}, api.ErrGraph},
		{7, [][2]int{{math.MinInt, math.MaxInt}}, api.ErrGraph},
		{3, [][2]int{{0, 1}, {0, 1}}, api.ErrGraph},
		{3, [][2]int{{0, 2}, {0, 1}}, api.ErrGraph},
		{3, [][2]int{{1, 2}, {0, 1}}, api.ErrGraph},
		{3, [][2]int{{1, 2}, {0, 2}}, api.ErrGraph},
		{3, [][2]int{{0, 1}, {0, 2}, {1, 2}, {1, 2}}, api.ErrGraph},
		{4, [][2]int{{0, 3}, {1, 2}}, api.OK},
		{6, pairsOf(6)[:10], api.OK},
		{6, pairsOf(6)[:11], api.ErrGraph},
		{7, pairsOf(7), api.ErrGraph},
		{7, make([][2]int, 100000), api.ErrGraph},
	} {
		if e := labels.Check(c.n, c.edges); e != c.want {
			t.Error(c, e)
		}
	}
}
