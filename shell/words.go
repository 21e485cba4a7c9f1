package shell

import (
	"strconv"
	"strings"

	"pressmark/api"
)

const (
	none      = "-" // no bytes, as a word
	maxDigits = 9
)

// given is what stands behind a line's first word: numbers, and bytes.
type given struct {
	numbers []int
	bytes   string
}

// wordsOf is the words of a line; none, if one of them is empty.
func wordsOf(line string) []string {
	words := strings.Split(line, " ")
	for _, w := range words {
		if w == "" {
			return nil
		}
	}
	return words
}

// read is what words tell, if each is of its kind: N is a number, H bytes.
func read(words []string, kinds string) (g given, ok bool) {
	if len(words) != len(kinds) {
		return given{}, false
	}
	for i, w := range words {
		if kinds[i] == 'N' {
			var n int
			n, ok = number(w)
			g.numbers = append(g.numbers, n)
		} else {
			g.bytes, ok = bytesOf(w)
		}
		if !ok {
			return given{}, false
		}
	}
	return g, true
}

// number is what a word tells as a number, if it is one.
func number(w string) (int, bool) {
	if w == "" || len(w) > maxDigits || w[0] == '0' && w != "0" {
		return 0, false
	}
	n := 0
	for i := range len(w) {
		if w[i] < '0' || w[i] > '9' {
			return 0, false
		}
		n = 10*n + int(w[i]-'0')
	}
	return n, true
}

// bytesOf is what a word tells as bytes, if it does.
func bytesOf(w string) (string, bool) {
	if w == none {
		return "", true
	}
	s, e := Unhex(w)
	return s, e == api.OK && s != ""
}

// raw is bytes that are told as digits.
type raw string

// lineOf is a line that tells things, parted by blanks.
func lineOf(things ...any) string {
	var words []string
	for _, x := range things {
		switch v := x.(type) {
		case string:
			words = append(words, v)
		case raw:
			words = append(words, hexWord(string(v)))
		case int:
			words = append(words, strconv.Itoa(v))
		case uint32:
			words = append(words, strconv.FormatUint(uint64(v), 10))
		case api.Errno:
			words = append(words, strconv.Itoa(int(v)))
		case []int:
			for _, n := range v {
				words = append(words, strconv.Itoa(n))
			}
		}
	}
	return strings.Join(words, " ") + "\n"
}

func hexWord(s string) string {
	if s == "" {
		return none
	}
	return Hex(s)
}
