package vane

import (
	"strconv"
	"strings"

	"girouette/api"
)

const (
	lineFeed = "\n"
	// remarkSign begins a line that is not for the shop.
	remarkSign = "#"
	// letters is all letters of words of a net.
	letters = "ab"
	// farthest is the greatest absolute value of a number.
	farthest = 1000000
)

// line is what is read in a line.
type line interface {
	// told is the line as it was given.
	told() string
}

// text is a line as it was given; each type of line embeds it.
type text string

// told is the text itself.
func (t text) told() string {
	return string(t)
}

// remark is a line without a reply.
type remark struct {
	text
}

// command is a line that changes the shop, by a method of it that takes the numbers.
type command struct {
	text
	do      func(numbers []int) api.Errno
	numbers []int
}

// question is a line that asks something of any shop.
type question struct {
	text
	ask func(s *Shop) (string, api.Errno)
}

// numbered is a question with a number, asked by a method of the shop.
type numbered struct {
	text
	ask    func(number int) (string, api.Errno)
	number int
}

// reading is the question whether a word is written.
type reading struct {
	text
	word string
}

// read returns what a line says to the shop, or false if that is nothing that a shop does.
func (s *Shop) read(t text) (line, bool) {
	if t == "" || strings.HasPrefix(t.told(), remarkSign) {
		return remark{t}, true
	}
	words := strings.Split(t.told(), blank)
	name, others := words[0], words[1:]
	switch name {
	case "arrow":
		return s.readArrow(t, others)
	case "written":
		return readReading(t, others)
	}
	numbers, ok := numbersOf(others)
	if !ok {
		return nil, false
	}
	return s.readNumbers(t, name, numbers)
}

// readNumbers reads a line that is a name and numbers, or a name alone.
func (s *Shop) readNumbers(t text, name string, numbers []int) (line, bool) {
	many := len(numbers)
	if ask, ok := questions()[name]; ok && many == 0 {
		return question{t, ask}, true
	}
	if ask := s.asking(name); ask != nil && many == 1 {
		return numbered{t, ask, numbers[0]}, true
	}
	if least, most, do := s.doing(name); do != nil && least <= many && many <= most {
		return command{t, do, numbers}, true
	}
	return nil, false
}

// readArrow reads the words behind the name: a node, a letter, and where the arrow goes.
func (s *Shop) readArrow(t text, words []string) (line, bool) {
	if len(words) != 3 || len(words[1]) != 1 {
		return nil, false
	}
	column := strings.Index(letters, words[1])
	ends, ok := numbersOf([]string{words[0], words[2]})
	if column < 0 || !ok {
		return nil, false
	}
	return command{t, s.setArrow, []int{ends[0], column, ends[1]}}, true
}

// readReading reads the words behind the name: one of letters of the net.
func readReading(t text, words []string) (line, bool) {
	if len(words) != 1 || words[0] == "" || strings.Trim(words[0], letters) != "" {
		return nil, false
	}
	return reading{t, words[0]}, true
}

// numbersOf is the numbers that the words are, or false if one of them is not a number.
func numbersOf(words []string) ([]int, bool) {
	numbers := make([]int, len(words))
	for i, word := range words {
		number, err := strconv.Atoi(word)
		// A number that is written otherwise than it would be in a reply has zeros or a sign that it must not have.
		if err != nil || strconv.Itoa(number) != word || number < -farthest || number > farthest {
			return nil, false
		}
		numbers[i] = number
	}
	return numbers, true
}
