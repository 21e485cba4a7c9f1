package turns_test

import (
	"slices"
	"sort"
	"strings"
	"testing"

	"pressmark/turns"
)

// slow is Order by its words.
func slow(s string) []int {
	l := make([]int, len(s))
	for i := range l {
		l[i] = i
	}
	sort.SliceStable(l, func(i, j int) bool { return s[l[i]:]+s[:l[i]] < s[l[j]:]+s[:l[j]] })
	return l
}

// chance is n bytes, of so many kinds, that look as if by chance, the same ones each time.
func chance(n, kinds int, seed uint64) string {
	b := make([]byte, n)
	for i := range b {
		seed = seed*6364136223846793005 + 1442695040888963407
		b[i] = byte(int(seed>>33) % kinds * 255 / max(1, kinds-1))
	}
	return string(b)
}

func texts() []string {
	l := []string{"", "a", "banana", "aa", "ab", "ba", "abab", "baba", "abcabcabc", "aabaab", "\xff\x00", "\x00\xff\x80\x7f", "mississippi", strings.Repeat("ab", 50) + "a", "abracadabra", strings.Repeat("a", 65), strings.Repeat("a", 64) + "b", "b" + strings.Repeat("a", 64)}
	for n := range 40 {
		l = append(l, chance(n, 2, uint64(n)), chance(n, 3, uint64(n)), chance(n*9, 256, uint64(n)), strings.Repeat(chance(n/4+1, 2, uint64(n)), n))
	}
	// All texts of a and b, up to seven bytes.
	for n := 1; n <= 7; n++ {
		for k := range 1 << n {
			b := make([]byte, n)
			for i := range b {
				b[i] = 'a' + byte(k>>i&1)
			}
			l = append(l, string(b))
		}
	}
	return l
}

func TestExample(t *testing.T) {
	if l := turns.Order("banana"); !slices.Equal(l, []int{5, 3, 1, 0, 4, 2}) {
		t.Error(l)
	}
	if last, origin := turns.Forward("banana"); last != "nnbaaa" || origin != 3 {
		t.Error(last, origin)
	}
	if l := turns.Order("abab"); !slices.Equal(l, []int{0, 2, 1, 3}) {
		t.Error(l)
	}
	if last, origin := turns.Forward("baba"); last != "bbaa" || origin != 2 {
		t.Error(last, origin)
	}
}

func TestOrder(t *testing.T) {
	for _, s := range texts() {
		want := slow(s)
		if got := turns.Order(s); !slices.Equal(got, want) {
			t.Fatalf("%q: %v, want %v", s, got, want)
		}
		last, origin := turns.Forward(s)
		out := ""
		for i, k := range want {
			out += (s[k:] + s[:k])[len(s)-1:]
			if k == 0 && origin != i {
				t.Fatalf("%q: %d, want %d", s, origin, i)
			}
		}
		if last != out || s == "" && origin != 0 {
			t.Fatalf("%q: %q %d, want %q", s, last, origin, out)
		}
	}
}

func TestTurnedTextsHaveOneLast(t *testing.T) {
	for _, s := range texts() {
		last, _ := turns.Forward(s)
		for k := range min(len(s), 20) {
			if other, _ := turns.Forward(s[k:] + s[:k]); other != last {
				t.Fatalf("%q %d", s, k)
			}
		}
		a, b := []byte(s), []byte(last)
		slices.Sort(a)
		slices.Sort(b)
		if string(a) != string(b) {
			t.Fatalf("%q: %q", s, last)
		}
	}
}

func TestLongTexts(t *testing.T) {
	for i, s := range []string{strings.Repeat("a", 1<<16), strings.Repeat("a", 1<<16-1) + "b", strings.Repeat("ab", 1<<15), "b" + strings.Repeat("a", 1<<16), chance(1<<16, 256, 1), chance(1<<16, 2, 1), strings.Repeat(chance(100, 5, 3), 600)} {
		l := turns.Order(s)
		seen := make([]bool, len(s))
		for _, k := range l {
			seen[k] = true
		}
		if slices.Contains(seen, false) {
			t.Fatal(i)
		}
		for j := 1; j < len(l); j += 97 {
			a, b := s[l[j-1]:]+s[:l[j-1]], s[l[j]:]+s[:l[j]]
			if a > b || a == b && l[j-1] > l[j] {
				t.Fatal(i, j)
			}
		}
	}
}

func TestMemory(t *testing.T) {
	one, two := turns.Order("banana"), turns.Order("banana")
	for i := range two[:cap(two)] {
		two[:cap(two)][i] = 9
	}
	if !slices.Equal(one, []int{5, 3, 1, 0, 4, 2}) {
		t.Error("an answer is changed by another one", one)
	}
}
