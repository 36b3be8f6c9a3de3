// Package lines: texts line by line, and the numbers in them.
package lines

import (
	"strings"

	"keyhold/api"
)

// maxDigits: a number of a text has no more digits.
const maxDigits = 5

// Of are the lines of a text: what stands behind the last newline is one only if there is something; an empty text has none.
func Of(text string) []string {
	l := strings.Split(text, "\n")
	if last := len(l) - 1; l[last] == "" {
		l = l[:last]
	}
	return l
}

// Number: each one has one text: no nought ahead of others.
func Number(word string) (int, bool) {
	if word == "" || len(word) > maxDigits || word[0] == '0' && len(word) > 1 {
		return 0, false
	}
	v := 0
	for _, r := range word {
		if !IsDigit(r) {
			return 0, false
		}
		v = 10*v + int(r-'0')
	}
	return v, true
}

// Numbers: each of the words has to be one, by what a text takes for a number.
func Numbers(words []string, number func(word string) (int, bool)) ([]int, error) {
	l := make([]int, len(words))
	for i, w := range words {
		n, ok := number(w)
		if !ok {
			return nil, api.ErrWord
		}
		l[i] = n
	}
	return l, nil
}

// IsDigit: is it one of 0 to 9?
func IsDigit(r rune) bool { return '0' <= r && r <= '9' }
