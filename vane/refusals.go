package vane

import (
	"strconv"

	"girouette/api"
)

// fault is the number of an error. It is a type of its own because those of api are not values of type error.
type fault api.Errno

// Error is the reply to a line that is refused.
func (f fault) Error() string {
	return said("error", strconv.Itoa(int(f)))
}

// refusal is a fault and the line that caused it.
type refusal struct {
	fault
	line string
}

// Error tells the line too, which a reply does not: that is the error of the fault alone.
func (r refusal) Error() string {
	return r.line + ": " + r.fault.Error()
}

// Unwrap is the fault by which a refusal is known.
func (r refusal) Unwrap() error {
	return r.fault
}
