package vane

import (
	"slices"

	"girouette/api"
	"girouette/bern"
	"girouette/cycles"
	"girouette/rounds"
	"girouette/shells"
	"girouette/shifts"
	"girouette/sofic"
	"girouette/steady"
)

const (
	// corners is how many corners the complex has.
	corners = 5
	// nodes is how many nodes the graph has.
	nodes = 5
	// nodesOfNet is how many nodes the net has.
	nodesOfNet = 2
	// nowhere is where an arrow of the net goes if there is not one.
	nowhere = -1
)

// doing is how few and how many numbers a command has, and the method that does it; it is nil if there is no such command.
func (s *Shop) doing(name string) (least, most int, do func(numbers []int) api.Errno) {
	switch name {
	case "pieces":
		return 1, 10, s.setPieces
	case "bar":
		return 2, 2, s.addBar
	case "teams":
		return 1, 1, s.setTeams
	case "cycle":
		return 2, 8, s.setCycle
	case "wind":
		return 4, 4, s.setWind
	case "curve":
		return 1, 7, s.setCurve
	case "rest":
		return 1, 6, s.setRest
	}
	return 0, 0, nil
}

// keep changes one part of the shop, if it was found to be right.
func keep[T any](part *T, now T, e api.Errno) api.Errno {
	if e == api.OK {
		*part = now
	}
	return e
}

// setPieces changes the complex.
func (s *Shop) setPieces(numbers []int) api.Errno {
	return keep(&s.pieces, numbers, shells.Check(corners, numbers))
}

// addBar adds an edge to the graph, at its place among the others.
func (s *Shop) addBar(numbers []int) api.Errno {
	bar := [2]int(numbers)
	if bar[0] < 0 || bar[0] >= bar[1] || bar[1] >= nodes {
		return api.ErrArg
	}
	place, there := slices.BinarySearchFunc(s.bars, bar, compareBars)
	if there {
		return api.ErrState
	}
	s.bars = slices.Insert(s.bars, place, bar)
	return api.OK
}

// compareBars is which of two edges comes first.
func compareBars(a, b [2]int) int {
	return slices.Compare(a[:], b[:])
}

// setTeams changes the schedule to one of that many teams.
func (s *Shop) setTeams(numbers []int) api.Errno {
	schedule, e := rounds.Make(numbers[0])
	return keep(&s.schedule, schedule, e)
}

// setCycle changes the cycle.
func (s *Shop) setCycle(numbers []int) api.Errno {
	return keep(&s.cycle, numbers, cycles.Check(numbers))
}

// setWind changes the matrix to the two rows one behind the other.
func (s *Shop) setWind(numbers []int) api.Errno {
	rows := [][]int{{numbers[0], numbers[1]}, {numbers[2], numbers[3]}}
	return keep(&s.wind, rows, shifts.Check(rows))
}

// setArrow changes where one arrow goes: the numbers are a node, the column of a letter and the other node.
func (s *Shop) setArrow(numbers []int) api.Errno {
	from, column, to := numbers[0], numbers[1], numbers[2]
	if from < 0 || from >= nodesOfNet || to < nowhere || to >= nodesOfNet {
		return api.ErrArg
	}
	net := s.net
	net[from][column] = to
	return keep(&s.net, net, sofic.Check(net[:]))
}

// setCurve changes the polynomial of the curve.
func (s *Shop) setCurve(numbers []int) api.Errno {
	return keep(&s.curve, numbers, bern.Check(numbers))
}

// setRest changes the polynomial of the rest.
func (s *Shop) setRest(numbers []int) api.Errno {
	return keep(&s.rest, numbers, steady.Check(numbers))
}
