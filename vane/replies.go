package vane

import (
	"strconv"
	"strings"
)

// blank stands between any two words of a line and of a reply.
const blank = " "

// said is the reply of these words.
func said(words ...string) string {
	return strings.Join(words, blank)
}

// counted is the reply of a word and the numbers behind it.
func counted[N int | int64](name string, numbers ...N) string {
	words := []string{name}
	for _, number := range numbers {
		words = append(words, strconv.FormatInt(int64(number), 10))
	}
	return said(words...)
}

// decided is the reply of a word and yes or no behind it.
func decided(name string, is bool) string {
	if is {
		return said(name, "yes")
	}
	return said(name, "no")
}
