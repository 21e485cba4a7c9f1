package code_test

import (
	"math"
	"slices"
	"sort"
	"strings"
	"testing"

	"pressmark/api"
	"pressmark/bits"
	"pressmark/code"
)

func alike(n, k int) []int { return slices.Repeat([]int{n}, k) }

// slowWords is Words by its words, each spelt in digits.
func slowWords(lens []int) []string {
	order := make([]int, len(lens))
	for i := range order {
		order[i] = i
	}
	sort.SliceStable(order, func(i, j int) bool { return lens[order[i]] < lens[order[j]] })
	words := make([]string, len(lens))
	v := uint64(0)
	for i, s := range order {
		if i > 0 {
			v++
			for range lens[s] - lens[order[i-1]] {
				v *= 2
			}
		}
		w := ""
		for k := lens[s] - 1; k >= 0; k-- {
			w += string('0' + rune(v>>k&1))
		}
		words[s] = w
	}
	return words
}

// of is the bits that digits spell.
func of(digits string) api.Bits {
	data := make([]byte, (len(digits)+7)/8)
	for i := range digits {
		if digits[i] == '1' {
			data[i/8] |= 128 >> (i % 8)
		}
	}
	return api.Bits{Data: string(data), N: len(digits)}
}

// comb is lengths 1, 2, 3 and so on, up to most, that twice: they use up 1.
func comb(most int) []int {
	var l []int
	for n := 1; n <= most; n++ {
		l = append(l, n)
	}
	return append(l, most)
}

// whole are lengths that use up 1, part such as use up less.
var whole = [][]int{{1, 1}, {2, 1, 2}, {1, 2, 2}, {2, 2, 2, 2}, {3, 1, 3, 2}, {2, 3, 3, 2, 2}, comb(20), comb(7), alike(8, 256), append(alike(8, 254), alike(9, 4)...), {3, 3, 3, 3, 3, 3, 3, 3}}
var part = [][]int{{1, 2}, {2, 2}, {20, 20}, {5, 1, 3}, {1, 20}, {20, 1}, alike(20, 258), alike(9, 258), {4, 4, 4, 2, 2, 9}, {3, 7, 3, 7, 5}}

var wrong = []struct {
	lens []int
	e    api.Errno
}{
	{nil, api.ErrArg}, {[]int{1}, api.ErrArg}, {[]int{}, api.ErrArg}, {alike(9, 259), api.ErrArg}, {alike(20, 1000), api.ErrArg}, {[]int{0, 1}, api.ErrArg}, {[]int{1, 0}, api.ErrArg}, {[]int{-1, 1}, api.ErrArg}, {[]int{21, 1}, api.ErrArg}, {[]int{1, 21}, api.ErrArg},
	{[]int{math.MaxInt, 1}, api.ErrArg}, {[]int{1, math.MinInt}, api.ErrArg}, {[]int{1, 1, 1, 21}, api.ErrArg}, {[]int{1, 1, 1, 0}, api.ErrArg}, {[]int{1, 1 << 32}, api.ErrArg}, {append(alike(1, 258), 1), api.ErrArg},
	{[]int{1, 1, 1}, api.ErrOver}, {[]int{1, 1, 20}, api.ErrOver}, {[]int{20, 1, 1}, api.ErrOver}, {alike(1, 258), api.ErrOver}, {alike(8, 257), api.ErrOver}, {alike(8, 258), api.ErrOver}, {append(comb(20), 20), api.ErrOver}, {append(alike(8, 254), 9, 9, 8, 20), api.ErrOver},
}

func TestCheck(t *testing.T) {
	for _, l := range slices.Concat(whole, part) {
		if e := code.Check(l); e != api.OK {
			t.Error(l, e)
		}
	}
	for _, x := range wrong {
		if e := code.Check(x.lens); e != x.e {
			t.Error(x.lens, e, x.e)
		}
		if w, e := code.Words(x.lens); e != x.e || len(w) != 0 {
			t.Error(x.lens, w, e)
		}
		for _, symbols := range [][]int{nil, {0}, {-1}, {300}} {
			if b, e := code.Put(x.lens, symbols...); e != x.e || b != (api.Bits{}) {
				t.Error(x.lens, b, e)
			}
		}
		for _, at := range []int{0, -1, 99} {
			if s, next, e := code.Take(x.lens, "\x00\x00\x00", at); e != x.e || s != 0 || next != 0 {
				t.Error(x.lens, s, next, e)
			}
		}
	}
}

func TestExample(t *testing.T) {
	w, e := code.Words([]int{2, 1, 2})
	if !slices.Equal(w, []api.Word{{Len: 2, Bits: 2}, {Len: 1, Bits: 0}, {Len: 2, Bits: 3}}) || e != api.OK {
		t.Error(w, e)
	}
}

func TestWords(t *testing.T) {
	for _, l := range slices.Concat(whole, part) {
		words, e := code.Words(l)
		if e != api.OK || len(words) != len(l) {
			t.Fatal(l, e)
		}
		slow := slowWords(l)
		for s, w := range words {
			b, _ := bits.Put(api.Bits{}, w.Bits, w.Len)
			if w.Len != l[s] || w.Bits >= 1<<w.Len || b != of(slow[s]) {
				t.Error(l, s, w, slow[s])
			}
			for k := range slow {
				if k != s && strings.HasPrefix(slow[k], slow[s]) {
					t.Error(l, k, s)
				}
			}
		}
	}
}

func TestPutAndTake(t *testing.T) {
	for _, l := range slices.Concat(whole, part) {
		slow := slowWords(l)
		var symbols []int
		digits := ""
		for k := range 300 {
			s := k * k * 7 % len(l)
			symbols = append(symbols, s)
			digits += slow[s]
		}
		for _, n := range []int{0, 1, 2, 9, 300} {
			want := ""
			for _, s := range symbols[:n] {
				want += slow[s]
			}
			if b, e := code.Put(l, symbols[:n]...); b != of(want) || e != api.OK {
				t.Fatal(l, n, e)
			}
		}
		data, at := of("10110"+digits).Data, 5
		for k, s := range symbols {
			got, next, e := code.Take(l, data, at)
			if got != s || next != at+l[s] || e != api.OK {
				t.Fatal(l, k, got, next, e)
			}
			at = next
		}
	}
}

func TestPutWrong(t *testing.T) {
	for _, symbols := range [][]int{{3}, {-1}, {0, 1, 3}, {0, -1, 1}, {math.MaxInt}, {math.MinInt}, {1 << 32}} {
		if b, e := code.Put([]int{2, 1, 2}, symbols...); b != (api.Bits{}) || e != api.ErrNone {
			t.Error(symbols, b, e)
		}
	}
}

func TestTakeWrong(t *testing.T) {
	for i, x := range []struct {
		lens []int
		s    string
		at   int
		e    api.Errno
	}{
		{[]int{1, 1}, "a", -1, api.ErrArg}, {[]int{1, 1}, "", math.MinInt, api.ErrArg},
		{[]int{1, 1}, "", 0, api.ErrShort}, {[]int{1, 1}, "a", 8, api.ErrShort}, {[]int{1, 1}, "a", 9, api.ErrShort}, {[]int{1, 1}, "a", math.MaxInt, api.ErrShort},
		{[]int{1, 2}, "\xff", 0, api.ErrForm}, {[]int{1, 2}, "\xff", 6, api.ErrForm}, {[]int{1, 2}, "\xff", 7, api.ErrShort}, {[]int{2, 2}, "\xc0", 0, api.ErrForm}, {[]int{2, 2}, "\x80", 0, api.ErrForm}, {[]int{2, 2}, "\x01", 7, api.ErrShort}, {[]int{2, 2}, "\x00", 7, api.ErrShort},
		{[]int{1, 20}, "\xff\xff", 0, api.ErrShort}, {[]int{1, 20}, "\xff\xff\xff", 0, api.ErrForm}, {[]int{1, 20}, "\xff\xff\xff", 4, api.ErrForm}, {[]int{1, 20}, "\xff\xff\xff", 5, api.ErrShort}, {[]int{2, 1, 20}, "\xff\xff", 0, api.ErrShort}, {[]int{20, 20}, "\x00\x00", 0, api.ErrShort},
		{alike(20, 258), "\x00\x10\x20", 0, api.ErrForm}, {alike(20, 258), "\x00\x10\x20", 5, api.ErrShort}, {comb(20), "\xff\xff", 0, api.ErrShort},
	} {
		if s, next, e := code.Take(x.lens, x.s, x.at); s != 0 || next != 0 || e != x.e {
			t.Error(i, s, next, e)
		}
	}
}

func TestTakeNearTheEnd(t *testing.T) {
	// A word that is there is taken, even if the longest one has no room.
	if s, next, e := code.Take([]int{1, 20}, "\x00", 7); s != 0 || next != 8 || e != api.OK {
		t.Error(s, next, e)
	}
	if s, next, e := code.Take([]int{20, 2, 2}, "\x01", 6); s != 2 || next != 8 || e != api.OK {
		t.Error(s, next, e)
	}
	if s, next, e := code.Take(comb(20), "\xff\xff\xff", 4); s != 20 || next != 24 || e != api.OK {
		t.Error(s, next, e)
	}
	if s, next, e := code.Take(alike(20, 258), "\x00\x10\x10", 0); s != 257 || next != 20 || e != api.OK {
		t.Error(s, next, e)
	}
}

func TestWholeCodesTellNoForm(t *testing.T) {
	data := "\x00\xff\x12\x34\x56\x78\x9a\xbc\xde\xf0\xff\xff\xff"
	for _, l := range whole {
		for at := range 8*len(data) + 2 {
			if _, _, e := code.Take(l, data, at); e != api.OK && (e != api.ErrShort || at+slices.Max(l) <= 8*len(data)) {
				t.Error(l, at, e)
			}
		}
	}
}

func TestMemory(t *testing.T) {
	lens := []int{2, 1, 2, 7}
	symbols := []int{0, 1, 2, 9}
	code.Check(lens[:3])
	one, _ := code.Words(lens[:3])
	two, _ := code.Words(lens[:3])
	for i := range two[:cap(two)] {
		two[:cap(two)][i] = api.Word{Len: 9, Bits: 9}
	}
	code.Put(lens[:3], symbols[:3]...)
	code.Take(lens[:3], "abc", 0)
	if !slices.Equal(lens, []int{2, 1, 2, 7}) || !slices.Equal(symbols, []int{0, 1, 2, 9}) {
		t.Error("changed", lens, symbols)
	}
	if !slices.Equal(one, []api.Word{{Len: 2, Bits: 2}, {Len: 1, Bits: 0}, {Len: 2, Bits: 3}}) {
		t.Error("an answer is changed by another one", one)
	}
}
