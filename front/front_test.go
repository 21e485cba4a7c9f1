package front_test

import (
	"math"
	"slices"
	"strings"
	"testing"

	"pressmark/api"
	"pressmark/front"
)

// slow is Front and After by their words.
func slow(alphabet, s string) (l []int, after string) {
	for i := range len(s) {
		at := strings.IndexByte(alphabet, s[i])
		l = append(l, at)
		alphabet = alphabet[at:at+1] + alphabet[:at] + alphabet[at+1:]
	}
	return l, alphabet
}

// every is all bytes, the greatest one first.
func every() string {
	b := make([]byte, 256)
	for i := range b {
		b[i] = byte(255 - i)
	}
	return string(b)
}

// chance is n bytes of an alphabet that look as if by chance, the same ones each time.
func chance(alphabet string, n int, seed uint64) string {
	b := make([]byte, n)
	for i := range b {
		seed = seed*6364136223846793005 + 1442695040888963407
		b[i] = alphabet[int(seed>>33)%len(alphabet)]
	}
	return string(b)
}

func TestRight(t *testing.T) {
	for s, want := range map[string]bool{"": true, "a": true, "abc": true, "cba": true, "aa": false, "aba": false, "abca": false, "abcc": false, "\x00\xff": true, "\xff\x00\xff": false, "\x00\x00": false, every(): true, every() + "a": false} {
		if front.Right(s) != want {
			t.Errorf("%q", s)
		}
	}
}

func TestExample(t *testing.T) {
	if l, e := front.Front("abc", "bbca"); !slices.Equal(l, []int{1, 0, 2, 2}) || e != api.OK {
		t.Error(l, e)
	}
	if s, e := front.After("abc", "bbca"); s != "acb" || e != api.OK {
		t.Error(s, e)
	}
	if s, e := front.Back("abc", []int{1, 0, 2, 2}); s != "bbca" || e != api.OK {
		t.Error(s, e)
	}
}

func TestThereAndBack(t *testing.T) {
	for _, alphabet := range []string{"a", "ab", "zyxw", "\x00\xff\x80", every()} {
		for n := range 60 {
			s := chance(alphabet, n, uint64(n))
			want, after := slow(alphabet, s)
			l, e := front.Front(alphabet, s)
			if !slices.Equal(l, want) || e != api.OK {
				t.Fatal(alphabet, s, l, want, e)
			}
			if got, e := front.After(alphabet, s); got != after || e != api.OK {
				t.Fatal(alphabet, s, got, after, e)
			}
			if got, e := front.Back(alphabet, l); got != s || e != api.OK {
				t.Fatal(alphabet, s, got, e)
			}
			two := chance(alphabet, 20, uint64(n+7))
			more, _ := front.Front(after, two)
			both, _ := front.Front(alphabet, s+two)
			if !slices.Equal(both, append(slices.Clone(want), more...)) {
				t.Fatal(alphabet, s, two, both)
			}
		}
	}
	if l, e := front.Front(every(), strings.Repeat("q", 4)); !slices.Equal(l, []int{142, 0, 0, 0}) || e != api.OK {
		t.Error(l, e)
	}
}

func TestBackOfAnyPlaces(t *testing.T) {
	alphabet := "wxyz"
	for a := range 4 {
		for b := range 4 {
			for c := range 4 {
				l := []int{a, b, c}
				s, e := front.Back(alphabet, l)
				again, e2 := front.Front(alphabet, s)
				if e != api.OK || e2 != api.OK || !slices.Equal(again, l) {
					t.Error(l, s, again, e, e2)
				}
			}
		}
	}
}

func TestNothing(t *testing.T) {
	for _, alphabet := range []string{"", "a", "ab"} {
		if l, e := front.Front(alphabet, ""); len(l) != 0 || e != api.OK {
			t.Error(l, e)
		}
		if s, e := front.After(alphabet, ""); s != alphabet || e != api.OK {
			t.Error(s, e)
		}
		if s, e := front.Back(alphabet, nil); s != "" || e != api.OK {
			t.Error(s, e)
		}
	}
}

func TestWrongText(t *testing.T) {
	for i, x := range []struct {
		alphabet, s string
		e           api.Errno
	}{
		{"aa", "a", api.ErrArg}, {"aa", "", api.ErrArg}, {"aba", "z", api.ErrArg}, {every() + "\x00", "", api.ErrArg},
		{"", "a", api.ErrNone}, {"ab", "abc", api.ErrNone}, {"ab", "cab", api.ErrNone}, {"ab", "acb", api.ErrNone}, {"a", "A", api.ErrNone},
	} {
		if l, e := front.Front(x.alphabet, x.s); len(l) != 0 || e != x.e {
			t.Error(i, l, e)
		}
		if s, e := front.After(x.alphabet, x.s); s != "" || e != x.e {
			t.Error(i, s, e)
		}
	}
}

func TestWrongPlaces(t *testing.T) {
	for i, x := range []struct {
		alphabet string
		l        []int
		e        api.Errno
	}{
		{"aa", []int{0}, api.ErrArg}, {"aa", nil, api.ErrArg}, {"abcb", []int{9}, api.ErrArg},
		{"", []int{0}, api.ErrNone}, {"ab", []int{2}, api.ErrNone}, {"ab", []int{-1}, api.ErrNone}, {"ab", []int{0, 1, 2}, api.ErrNone}, {"ab", []int{0, -1, 0}, api.ErrNone},
		{"ab", []int{math.MaxInt}, api.ErrNone}, {"ab", []int{math.MinInt}, api.ErrNone}, {every(), []int{256}, api.ErrNone}, {"ab", []int{-1 << 32}, api.ErrNone},
	} {
		if s, e := front.Back(x.alphabet, x.l); s != "" || e != x.e {
			t.Error(i, s, e)
		}
	}
	if s, e := front.Back(every(), []int{255, 255, 0}); s != "\x00\x01\x01" || e != api.OK {
		t.Errorf("%q %d", s, e)
	}
}

func TestMemory(t *testing.T) {
	l := []int{1, 1, 1, 9, 9}
	if s, e := front.Back("abc", l[:3]); s != "bab" || e != api.OK {
		t.Error(s, e)
	}
	if !slices.Equal(l, []int{1, 1, 1, 9, 9}) {
		t.Error("what was handed in is changed", l)
	}
	one, _ := front.Front("abc", "abcabc")
	two, _ := front.Front("abc", "abcabc")
	for i := range two[:cap(two)] {
		two[:cap(two)][i] = -1
	}
	if !slices.Equal(one, []int{0, 1, 2, 2, 2, 2}) {
		t.Error("an answer is changed by another one", one)
	}
}
