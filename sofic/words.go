package sofic

import (
	"iter"
)

const (
	// maxLetters is the most letters of a word in a call.
	maxLetters = 100
	// alphabet is all letters, rising.
	alphabet    = "ab"
	firstLetter = 'a'
	lastLetter  = 'b'
)

// isWord is whether the text is a word that calls take.
func isWord(text string) bool {
	if len(text) > maxLetters {
		return false
	}
	for _, letter := range text {
		if letter < firstLetter || letter > lastLetter {
			return false
		}
	}
	return true
}

// words runs through all words with m letters, rising.
func words(m int) iter.Seq[string] {
	return func(yield func(string) bool) {
		// spell goes on from the beginning of a word with all that it may become; it is whether yield wants more.
		var spell func(begin string) bool
		spell = func(begin string) bool {
			if len(begin) == m {
				return yield(begin)
			}
			for _, letter := range alphabet {
				if !spell(begin + string(letter)) {
					return false
				}
			}
			return true
		}
		spell("")
	}
}

// chosen is the words with m letters that are chosen, rising.
func chosen(m int, isChosen func(word string) bool) []string {
	var list []string
	for word := range words(m) {
		if isChosen(word) {
			list = append(list, word)
		}
	}
	return list
}

// ends is the nodes at which ways with the word end.
func (n arrows) ends(word string) nodes {
	set := allOf(n.k)
	for _, letter := range word {
		set = n.step(set, letter)
	}
	return set
}

// writes is whether the word is written.
func (n arrows) writes(word string) bool {
	return n.ends(word) != 0
}

// forbids is whether the word, of one letter or more, is forbidden.
func (n arrows) forbids(word string) bool {
	return !n.writes(word) && n.writes(word[1:]) && n.writes(word[:len(word)-1])
}

// counted is how many words with m letters lead from the start to each state, by what a step with a letter makes of one.
func counted[S comparable](start S, step func(now S, letter rune) S, m int) map[S]int {
	counts := map[S]int{start: 1}
	for range m {
		longer := map[S]int{}
		for now, many := range counts {
			for _, letter := range alphabet {
				longer[step(now, letter)] += many
			}
		}
		counts = longer
	}
	return counts
}

// count is the number of words with m letters that are written.
func (n arrows) count(m int) int {
	written := 0
	for set, many := range counted(allOf(n.k), n.step, m) {
		if set != 0 {
			written += many
		}
	}
	return written
}

// shortest is a shortest word that leads from the start to a state that is looked for, by what a step with a letter makes of one, if there is such a word.
func shortest[S comparable](start S, step func(now S, letter rune) S, isLookedFor func(now S) bool) (string, bool) {
	leading := map[S]string{}
	var queue []S
	found, ok := "", false
	// meet keeps the first word that leads to a state. No later one is shorter, as the queue goes on from the shortest ones first.
	meet := func(now S, word string) {
		if _, met := leading[now]; met {
			return
		}
		leading[now] = word
		queue = append(queue, now)
		if isLookedFor(now) {
			found, ok = word, true
		}
	}
	meet(start, "")
search:
	for i := 0; i < len(queue); i++ {
		now := queue[i]
		for _, letter := range alphabet {
			if ok {
				break search
			}
			longer := leading[now] + string(letter)
			meet(step(now, letter), longer)
		}
	}
	return found, ok
}
