package vane

import (
	"girouette/api"
	"girouette/bern"
	"girouette/cycles"
	"girouette/labels"
	"girouette/orders"
	"girouette/rounds"
	"girouette/shells"
	"girouette/shifts"
	"girouette/sofic"
	"girouette/steady"
)

// questions is the questions without a number, by their names.
func questions() map[string]func(s *Shop) (string, api.Errno) {
	return map[string]func(s *Shop) (string, api.Errno){
		"holes":   (*Shop).holes,
		"shell":   (*Shop).shell,
		"labels":  (*Shop).labels,
		"above":   (*Shop).above,
		"drawn":   (*Shop).drawn,
		"breaks":  (*Shop).breaks,
		"periods": (*Shop).periods,
		"torsion": (*Shop).torsion,
		"memory":  (*Shop).memory,
		"high":    (*Shop).high,
		"roots":   (*Shop).roots,
		"steady":  (*Shop).steady,
	}
}

// asking is the method that answers a question with a number; it is nil if there is no such question.
func (s *Shop) asking(name string) func(number int) (string, api.Errno) {
	switch name {
	case "homes":
		return s.homes
	case "rounds":
		return s.rounds
	}
	return nil
}

// holes asks for the hollow numbers of the complex.
func (s *Shop) holes() (string, api.Errno) {
	numbers, e := shells.Hollows(corners, s.pieces)
	return counted("holes", numbers...), e
}

// shell asks whether the complex has a shelling.
func (s *Shop) shell() (string, api.Errno) {
	_, ok, e := shells.Shell(corners, s.pieces)
	return decided("shell", ok), e
}

// labels asks how many graceful labels the graph has.
func (s *Shop) labels() (string, api.Errno) {
	many, e := labels.Count(nodes, s.bars)
	return counted("labels", many), e
}

// above asks how many orders the graph has.
func (s *Shop) above() (string, api.Errno) {
	many, e := orders.Count(nodes, s.bars)
	return counted("above", many), e
}

// drawn asks whether two lines draw the graph.
func (s *Shop) drawn() (string, api.Errno) {
	_, ok, e := orders.Draw(nodes, s.bars)
	return decided("drawn", ok), e
}

// teams is how many teams the schedule has: one more than rounds.
func (s *Shop) teams() int {
	return len(s.schedule) + 1
}

// breaks asks how many breaks the schedule has.
func (s *Shop) breaks() (string, api.Errno) {
	many, e := rounds.Breaks(s.teams(), s.schedule)
	return counted("breaks", many), e
}

// homes asks in which rounds a team is at home.
func (s *Shop) homes(team int) (string, api.Errno) {
	homes, e := rounds.Homes(s.teams(), s.schedule)
	if e != api.OK {
		return "", e
	}
	if team < 0 || team >= len(homes) {
		return "", api.ErrArg
	}
	return said("homes", homes[team]), api.OK
}

// periods asks for the periods of the cycle.
func (s *Shop) periods() (string, api.Errno) {
	numbers, e := cycles.Periods(s.cycle)
	return counted("periods", numbers...), e
}

// rounds asks how many round trips of a length the matrix has.
func (s *Shop) rounds(length int) (string, api.Errno) {
	many, e := shifts.Rounds(s.wind, length)
	return counted("rounds", many), e
}

// torsion asks for the torsion of the matrix.
func (s *Shop) torsion() (string, api.Errno) {
	numbers, e := shifts.Torsion(s.wind)
	return counted("torsion", numbers...), e
}

// written asks whether the net writes a word.
func (s *Shop) written(word string) (string, api.Errno) {
	ok, e := sofic.Is(s.net[:], word)
	return decided("written", ok), e
}

// memory asks for the memory of the net.
func (s *Shop) memory() (string, api.Errno) {
	letters, ok, e := sofic.Memory(s.net[:])
	if e == api.OK && !ok {
		e = api.ErrNone
	}
	return counted("memory", letters), e
}

// high asks whether the curve is positive, with a proof.
func (s *Shop) high() (string, api.Errno) {
	ok, _, e := bern.Positive(s.curve)
	return decided("high", ok), e
}

// roots asks how many roots the curve has from 0 to 1.
func (s *Shop) roots() (string, api.Errno) {
	many, e := bern.Count(s.curve)
	return counted("roots", many), e
}

// steady asks whether the polynomial of the rest is steady.
func (s *Shop) steady() (string, api.Errno) {
	ok, e := steady.IsSteady(s.rest)
	return decided("steady", ok), e
}
