package desk

import (
	"iter"
	"strconv"
	"strings"

	"copse/api"
)

// lines goes through a text's lines: a line feed at its end ends the last one, and begins no other.
func lines(text string) iter.Seq[string] {
	return func(yield func(string) bool) {
		rest, more := strings.TrimSuffix(text, "\n"), true
		for more {
			var line string
			line, rest, more = strings.Cut(rest, "\n")
			if !yield(line) {
				return
			}
		}
	}
}

func words(line string) []string {
	return strings.FieldsFunc(line, isBlank)
}

// isBlank: other signs that are white, as a tab, are signs of a word.
func isBlank(r rune) bool {
	return r == ' '
}

// numbers are the words of a line, if these are just so many numbers.
func numbers(rest []string, many int) []int {
	if len(rest) != many {
		panic(api.ErrForm)
	}
	l := make([]int, many)
	for i, w := range rest {
		l[i] = number(w)
	}
	return l
}

// number is a word's, if the word is the one way to write that number.
func number(word string) int {
	n, err := strconv.ParseInt(word, 10, 64)
	if err != nil || strconv.FormatInt(n, 10) != word {
		panic(api.ErrForm)
	}
	return int(n)
}

func one(rest []string) int {
	return numbers(rest, 1)[0]
}

func two(rest []string) (int, int) {
	l := numbers(rest, 2)
	return l[0], l[1]
}

func none(rest []string) {
	numbers(rest, 0)
}

// blanked is numbers with a blank between.
func blanked(l ...int) string {
	var texts []string
	for _, n := range l {
		texts = append(texts, strconv.Itoa(n))
	}
	return strings.Join(texts, " ")
}

func wrong(e api.Errno) string {
	return "error " + strconv.Itoa(int(e))
}
