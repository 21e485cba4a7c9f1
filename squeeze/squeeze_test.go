package squeeze_test

import (
	"math"
	"slices"
	"strings"
	"testing"

	"pressmark/api"
	"pressmark/front"
	"pressmark/squeeze"
	"pressmark/turns"
	"pressmark/used"
	"pressmark/zero"
)

func same(a, b api.Squeezed) bool {
	return a.Alphabet == b.Alphabet && a.Origin == b.Origin && slices.Equal(a.Symbols, b.Symbols)
}

func none(q api.Squeezed) bool { return same(q, api.Squeezed{}) }

// chance is n bytes, of so many kinds, that look as if by chance, the same ones each time.
func chance(n, kinds int, seed uint64) string {
	b := make([]byte, n)
	for i := range b {
		seed = seed*6364136223846793005 + 1442695040888963407
		b[i] = byte(int(seed>>33) % kinds * 255 / max(1, kinds-1))
	}
	return string(b)
}

func every() string {
	b := make([]byte, 256)
	for i := range b {
		b[i] = byte(255 - i)
	}
	return string(b)
}

func texts() []string {
	l := []string{"a", "aaaa", "banana", "ab", "abab", "\x00", "\xff\x00\xff", every(), every() + every(), strings.Repeat("a", 1000), "the quick brown fox jumps over the lazy dog"}
	for n := 1; n < 40; n++ {
		l = append(l, chance(n, 2, uint64(n)), chance(n, 5, uint64(n)), chance(9*n, 256, uint64(n)))
	}
	return l
}

func TestExamples(t *testing.T) {
	if q, e := squeeze.Squeeze("aaaa"); !same(q, api.Squeezed{Alphabet: "a", Symbols: []int{1, 0, 2}}) || e != api.OK {
		t.Error(q, e)
	}
	if q, e := squeeze.Squeeze("banana"); !same(q, api.Squeezed{Alphabet: "abn", Origin: 3, Symbols: []int{3, 0, 3, 3, 1, 4}}) || e != api.OK {
		t.Error(q, e)
	}
	if s, e := squeeze.Restore(api.Squeezed{Alphabet: "abn", Origin: 3, Symbols: []int{3, 0, 3, 3, 1, 4}}, 6); s != "banana" || e != api.OK {
		t.Error(s, e)
	}
}

func TestThereAndBack(t *testing.T) {
	for _, s := range append(texts(), strings.Repeat("a", 1<<16), chance(1<<16, 256, 3)) {
		q, e := squeeze.Squeeze(s)
		if e != api.OK {
			t.Fatal(s, e)
		}
		last, origin := turns.Forward(s)
		places, _ := front.Front(used.Alphabet(s), last)
		symbols, _ := zero.Encode(places)
		want := api.Squeezed{Alphabet: used.Alphabet(s), Origin: origin, Symbols: append(symbols, len(used.Alphabet(s))+1)}
		if !same(q, want) {
			t.Fatal(s, q, want)
		}
		if n := squeeze.Codes(q); n != len(q.Alphabet)+2 {
			t.Fatal(s, n)
		}
		had := slices.Clone(q.Symbols)
		for _, most := range []int{len(s), len(s) + 1, math.MaxInt} {
			if got, e := squeeze.Restore(q, most); got != s || e != api.OK {
				t.Fatal(s, most, got, e)
			}
		}
		for _, most := range []int{len(s) - 1, 0, -1, math.MinInt} {
			if got, e := squeeze.Restore(q, most); got != "" || e != api.ErrLong {
				t.Fatal(s, most, got, e)
			}
		}
		if !slices.Equal(q.Symbols, had) {
			t.Fatal("changed", s)
		}
	}
}

func TestSqueezeWrong(t *testing.T) {
	for _, s := range []string{"", strings.Repeat("a", 1<<16+1), strings.Repeat("ab", 1<<17)} {
		if q, e := squeeze.Squeeze(s); !none(q) || e != api.ErrArg {
			t.Error(len(s), q, e)
		}
	}
}

func TestCodes(t *testing.T) {
	for s, want := range map[string]int{"": 2, "a": 3, "ab": 4, "ba": 4, "aa": 4, every(): 258} {
		if n := squeeze.Codes(api.Squeezed{Alphabet: s, Origin: 9, Symbols: []int{7, 7, 7}}); n != want {
			t.Error(s, n)
		}
	}
}

func TestRestoreWrong(t *testing.T) {
	long := func(n int) []int { return append(slices.Repeat([]int{1}, n), 3) }
	for i, x := range []struct {
		alphabet string
		origin   int
		symbols  []int
		most     int
		e        api.Errno
	}{
		{"", 0, []int{0, 1}, 9, api.ErrArg}, {"", 0, nil, 9, api.ErrArg}, {"ba", 0, []int{0, 3}, 9, api.ErrArg}, {"aa", 0, []int{0, 3}, 9, api.ErrArg}, {"aab", 0, []int{0, 4}, 9, api.ErrArg}, {"ba", 0, []int{9}, -9, api.ErrArg}, {every(), 0, nil, 9, api.ErrArg},
		{"ab", 0, nil, 9, api.ErrForm}, {"ab", 0, nil, -1, api.ErrForm}, {"ab", 0, []int{0}, 9, api.ErrForm}, {"ab", 0, []int{0, 2}, 9, api.ErrForm}, {"ab", 0, []int{0, 4}, 9, api.ErrForm}, {"ab", 0, []int{3, 0}, 9, api.ErrForm}, {"ab", 0, []int{0, 3, 3}, 9, api.ErrForm}, {"ab", 0, []int{4, 3}, 9, api.ErrForm}, {"ab", 0, []int{-1, 3}, 9, api.ErrForm}, {"ab", 0, []int{0, -1, 3}, -9, api.ErrForm}, {"ab", 0, []int{math.MaxInt, 3}, 9, api.ErrForm}, {"ab", 0, []int{math.MinInt, 3}, 9, api.ErrForm}, {"ab", 0, []int{0, -3}, 9, api.ErrForm},
		{"a", 0, []int{2, 2}, 9, api.ErrForm}, {"a", 0, []int{3}, 9, api.ErrForm},
		{"ab", 0, []int{0, 0, 3}, 2, api.ErrLong}, {"ab", 0, []int{2, 3}, 0, api.ErrLong}, {"ab", -1, []int{2, 3}, 0, api.ErrLong}, {"ab", 99, []int{1, 2, 3}, 2, api.ErrLong}, {"ab", 0, []int{3}, -1, api.ErrLong}, {"ab", 0, long(41), math.MaxInt, api.ErrLong}, {"ab", 0, long(64), math.MaxInt, api.ErrLong}, {"ab", -1, long(64), math.MaxInt, api.ErrLong}, {"ab", 0, long(30), 1 << 20, api.ErrLong},
		{"ab", 0, []int{3}, 0, api.ErrForm}, {"ab", 0, []int{3}, 9, api.ErrForm}, {"ab", -1, []int{0, 3}, 9, api.ErrForm}, {"ab", 1, []int{0, 3}, 9, api.ErrForm}, {"ab", 3, []int{0, 0, 3}, 9, api.ErrForm}, {"ab", math.MaxInt, []int{0, 3}, 9, api.ErrForm}, {"ab", math.MinInt, []int{0, 3}, 9, api.ErrForm},
	} {
		s, e := squeeze.Restore(api.Squeezed{Alphabet: x.alphabet, Origin: x.origin, Symbols: x.symbols}, x.most)
		if s != "" || e != x.e {
			t.Error(i, s, e, x.e)
		}
	}
}

func TestRestoreOfWhatNothingSqueezes(t *testing.T) {
	// More rounds than one, and bytes of the alphabet that are not used: it is read all the same.
	for i, x := range []struct {
		alphabet string
		origin   int
		symbols  []int
		want     string
	}{
		{"ab", 0, []int{0, 2, 3}, "aa"}, {"ab", 1, []int{0, 2, 3}, "bb"}, {"abc", 0, []int{1, 4}, "aa"}, {"xyz", 0, []int{3, 4}, "z"}, {"abn", 0, []int{3, 0, 3, 3, 1, 4}, "abanan"},
	} {
		s, e := squeeze.Restore(api.Squeezed{Alphabet: x.alphabet, Origin: x.origin, Symbols: x.symbols}, 10)
		if s != x.want || e != api.OK {
			t.Error(i, s, e, x.want)
		}
	}
}

func TestMemory(t *testing.T) {
	one, _ := squeeze.Squeeze("banana")
	two, _ := squeeze.Squeeze("banana")
	for i := range two.Symbols[:cap(two.Symbols)] {
		two.Symbols[:cap(two.Symbols)][i] = 9
	}
	if !slices.Equal(one.Symbols, []int{3, 0, 3, 3, 1, 4}) {
		t.Error("an answer is changed by another one", one)
	}
	l := []int{3, 0, 3, 3, 1, 4, 88, 88}
	if s, e := squeeze.Restore(api.Squeezed{Alphabet: "abn", Origin: 3, Symbols: l[:6]}, 6); s != "banana" || e != api.OK {
		t.Error(s, e)
	}
	if !slices.Equal(l, []int{3, 0, 3, 3, 1, 4, 88, 88}) {
		t.Error("changed", l)
	}
}
