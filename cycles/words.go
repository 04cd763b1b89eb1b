package cycles

import (
	"cmp"
	"slices"
	"strings"
)

const (
	// maxLetters is the most letters of a word.
	maxLetters = 11
	// inOrder is all letters, in their order.
	inOrder = "LCR"
)

// isWord is whether the text is a word.
func isWord(text string) bool {
	if len(text) > maxLetters {
		return false
	}
	for _, letter := range text {
		if letter != 'L' && letter != 'R' {
			return false
		}
	}
	return true
}

// isWithC is whether the text is a word with C behind it.
func isWithC(text string) bool {
	w, ok := strings.CutSuffix(text, "C")
	return ok && isWord(w)
}

// ending is a word with C, as a string that is left of such a one, too, is one.
type ending string

// compare is less than 0 if the ending is lower than the other one, and greater than 0 if it is higher. C is at the end alone, so that they differ before either of them is over, or not at all.
func (w ending) compare(other ending) int {
	sign := 1
	for i, letter := range w {
		one, another := strings.IndexRune(inOrder, letter), strings.IndexByte(inOrder, other[i])
		if one != another {
			return sign * cmp.Compare(one, another)
		}
		if letter == 'R' {
			sign = -sign
		}
	}
	return 0
}

// endings is the word with C behind, and with its first letters left out, one more each time.
func endings(w string) []ending {
	var list []ending
	for k := range len(w) + 1 {
		list = append(list, ending(w[k:]+"C"))
	}
	return list
}

// isGreatest is whether the word is greatest.
func isGreatest(w string) bool {
	list := endings(w)
	for _, shorter := range list[1:] {
		if shorter.compare(list[0]) >= 0 {
			return false
		}
	}
	return true
}

// greatestWords is all greatest words with that many letters, rising.
func greatestWords(letters int) []string {
	var found []string
	// spell goes on from the beginning of a word with all that it may become.
	var spell func(begin string)
	spell = func(begin string) {
		if len(begin) < letters {
			spell(begin + "L")
			spell(begin + "R")
		} else if isGreatest(begin) {
			found = append(found, begin)
		}
	}
	spell("")
	return found
}

// cycleOf is the cycle of a greatest word.
func cycleOf(w string) []int {
	list := endings(w)
	rising := slices.Clone(list)
	slices.SortFunc(rising, ending.compare)
	p := make([]int, len(list))
	from := list[len(list)-1]
	for _, to := range list {
		p[slices.Index(rising, from)] = slices.Index(rising, to)
		from = to
	}
	return p
}
