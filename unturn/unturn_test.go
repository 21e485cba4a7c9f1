package unturn_test

import (
	"math"
	"slices"
	"sort"
	"strings"
	"testing"

	"pressmark/api"
	"pressmark/turns"
	"pressmark/unturn"
)

// slowVector is Vector by its words.
func slowVector(last string) []int {
	l := make([]int, len(last))
	for i := range l {
		l[i] = i
	}
	sort.SliceStable(l, func(i, j int) bool { return last[l[i]] < last[l[j]] })
	return l
}

// slowCycles counts the places that are the least of those to which one comes from them.
func slowCycles(last string) int {
	v := slowVector(last)
	n := 0
	for i := range v {
		at := v[i]
		for at > i {
			at = v[at]
		}
		if at == i {
			n++
		}
	}
	return n
}

// chance is n bytes, of so many kinds, that look as if by chance, the same ones each time.
func chance(n, kinds int, seed uint64) string {
	b := make([]byte, n)
	for i := range b {
		seed = seed*6364136223846793005 + 1442695040888963407
		b[i] = byte(int(seed>>33) % kinds * 255 / max(1, kinds-1))
	}
	return string(b)
}

func texts() []string {
	l := []string{"", "a", "nnbaaa", "ab", "ba", "aa", "aab", "\xff\x00", "\x00\xff", "\xff\xff\x00\x00\x80", "zyxwv", strings.Repeat("ba", 20), strings.Repeat("a", 30), "banana"}
	for n := range 30 {
		l = append(l, chance(n, 2, uint64(n)), chance(n, 4, uint64(n)), chance(n*9, 256, uint64(n)))
	}
	for n := 1; n <= 7; n++ {
		for k := range 1 << n {
			b := make([]byte, n)
			for i := range b {
				b[i] = 'a' + byte(k>>i&1)
			}
			l = append(l, string(b))
		}
	}
	return l
}

func TestExamples(t *testing.T) {
	if s, e := unturn.Back("nnbaaa", 3); s != "banana" || e != api.OK {
		t.Error(s, e)
	}
	if l := unturn.Vector("ba"); !slices.Equal(l, []int{1, 0}) {
		t.Error(l)
	}
	if l := unturn.Vector("nnbaaa"); !slices.Equal(l, []int{3, 4, 5, 2, 0, 1}) {
		t.Error(l)
	}
	for s, want := range map[string]int{"": 0, "ba": 1, "ab": 2, "a": 1, "aaaa": 4, "nnbaaa": 1, "cab": 1, "bca": 1, "acb": 2, "bbaa": 2} {
		if n := unturn.Cycles(s); n != want {
			t.Error(s, n)
		}
	}
}

func TestVectorAndCycles(t *testing.T) {
	for _, s := range texts() {
		if l := unturn.Vector(s); !slices.Equal(l, slowVector(s)) {
			t.Errorf("%q: %v", s, l)
		}
		if n := unturn.Cycles(s); n != slowCycles(s) {
			t.Errorf("%q: %d, want %d", s, n, slowCycles(s))
		}
	}
	for b := range 255 {
		s := string([]byte{byte(b + 1), byte(b)})
		if l := unturn.Vector(s); !slices.Equal(l, []int{1, 0}) {
			t.Errorf("%q: %v", s, l)
		}
	}
}

func TestBack(t *testing.T) {
	for _, last := range texts() {
		v := slowVector(last)
		for origin := range len(last) {
			want := ""
			at := v[origin]
			for range len(last) {
				want += last[at : at+1]
				at = v[at]
			}
			if s, e := unturn.Back(last, origin); s != want || e != api.OK {
				t.Errorf("%q %d: %q %d, want %q", last, origin, s, e, want)
			}
		}
	}
	if s, e := unturn.Back("", 0); s != "" || e != api.OK {
		t.Error(s, e)
	}
}

func TestBackWrong(t *testing.T) {
	for i, x := range []struct {
		last   string
		origin int
	}{{"", 1}, {"", -1}, {"", math.MaxInt}, {"a", 1}, {"a", -1}, {"nnbaaa", 6}, {"nnbaaa", -1}, {"nnbaaa", math.MaxInt}, {"nnbaaa", math.MinInt}, {"ab", 1 << 32}} {
		if s, e := unturn.Back(x.last, x.origin); s != "" || e != api.ErrArg {
			t.Error(i, s, e)
		}
	}
}

func TestBackUndoesForward(t *testing.T) {
	for _, s := range texts() {
		last, origin := turns.Forward(s)
		if got, e := unturn.Back(last, origin); got != s || e != api.OK {
			t.Errorf("%q: %q %d", s, got, e)
		}
		if unturn.Cycles(s) != 1 {
			continue
		}
		for origin := range len(s) {
			text, _ := unturn.Back(s, origin)
			if last, at := turns.Forward(text); last != s || at != origin {
				t.Errorf("%q %d: %q %d", s, origin, last, at)
			}
		}
	}
}

func TestLongText(t *testing.T) {
	s := chance(1<<16, 200, 5)
	last, origin := turns.Forward(s)
	if got, e := unturn.Back(last, origin); got != s || e != api.OK {
		t.Error(e)
	}
	if n := unturn.Cycles(strings.Repeat("a", 1<<20)); n != 1<<20 {
		t.Error(n)
	}
}

func TestMemory(t *testing.T) {
	one, two := unturn.Vector("nnbaaa"), unturn.Vector("nnbaaa")
	for i := range two[:cap(two)] {
		two[:cap(two)][i] = 9
	}
	if !slices.Equal(one, []int{3, 4, 5, 2, 0, 1}) {
		t.Error("an answer is changed by another one", one)
	}
}
