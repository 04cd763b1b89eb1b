package vane

import (
	"strings"

	"girouette/api"
)

// hear returns the reply to a line, or the refusal of it.
func (s *Shop) hear(given string) (string, error) {
	reply, e := s.reply(given)
	if e != api.OK {
		return "", refusal{fault(e), given}
	}
	return reply, nil
}

// reply returns the reply to a line.
func (s *Shop) reply(given string) (string, api.Errno) {
	if s == nil {
		return "", api.ErrNil
	}
	if len(given) > api.MaxLine || strings.Contains(given, lineFeed) {
		return "", api.ErrLong
	}
	l, ok := s.read(text(given))
	if !ok {
		return "", api.ErrLine
	}
	return s.answer(l)
}

// answer does what a line says and returns the reply.
func (s *Shop) answer(given line) (string, api.Errno) {
	switch l := given.(type) {
	case command:
		e := l.do(l.numbers)
		if e == api.OK {
			s.note(l)
		}
		return said("ok"), e
	case question:
		return l.ask(s)
	case numbered:
		return l.ask(l.number)
	case reading:
		return s.written(l.word)
	}
	// What is left is a remark.
	return "", api.OK
}

// note writes a line in the book.
func (s *Shop) note(done line) {
	s.book = append(s.book, done.told()...)
	s.book = append(s.book, lineFeed...)
}
