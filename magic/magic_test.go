package magic_test

import (
	"math"
	"slices"
	"strings"
	"testing"

	"pressmark/magic"
)

// spell is all bits of a text as digits.
func spell(s string) string {
	var b strings.Builder
	for i := 0; i < len(s); i++ {
		for k := 7; k >= 0; k-- {
			b.WriteByte('0' + s[i]>>k&1)
		}
	}
	return b.String()
}

// pattern is the n lowest bits of m as digits.
func pattern(m uint64, n int) string {
	var b strings.Builder
	for k := n - 1; k >= 0; k-- {
		b.WriteByte('0' + byte(m>>k&1))
	}
	return b.String()
}

// where is every place of a pattern among digits, from a place on.
func where(digits string, from int, p string) []int {
	var l []int
	for at := max(from, 0); at+len(p) <= len(digits); at++ {
		if digits[at:at+len(p)] == p {
			l = append(l, at)
		}
	}
	return l
}

const text = "\x05\x50\x00\xff\x31\x41\x59\x26\x53\x59\xaa\xaa\x62\x82\xb2\x4c\xa6\xb2\x05\x50"

func TestExample(t *testing.T) {
	if l := magic.All("\x05\x50", 5, 3); !slices.Equal(l, []int{5, 7, 9}) {
		t.Error(l)
	}
	for from, want := range []int{5, 5, 5, 5, 5, 5, 7, 7, 9, 9, -1, -1} {
		if got := magic.Find("\x05\x50", from, 5, 3); got != want {
			t.Error(from, got, want)
		}
	}
}

func TestAgainstDigits(t *testing.T) {
	digits := spell(text)
	for _, x := range []struct {
		m uint64
		n int
	}{{0, 1}, {1, 1}, {2, 2}, {5, 3}, {0xfd, 3}, {0, 8}, {0xff, 8}, {math.MaxUint64, 8}, {0x155, 9}, {0x314159265359, 48}, {0xffff314159265359, 48}, {0x0550, 16}, {0xff31415926535, 52}, {0x314159265359aaaa, 64}, {0x628282, 64}, {0, 63}} {
		p := pattern(x.m, x.n)
		want := where(digits, 0, p)
		if got := magic.All(text, x.m, x.n); !slices.Equal(got, want) {
			t.Errorf("%x %d: %v, want %v", x.m, x.n, got, want)
		}
		for at := -9; at < len(digits)+9; at++ {
			if got := magic.Match(text, at, x.m, x.n); got != slices.Contains(want, at) {
				t.Errorf("%x %d at %d: %v", x.m, x.n, at, got)
			}
			first := -1
			if l := where(digits, at, p); len(l) > 0 {
				first = l[0]
			}
			if got := magic.Find(text, at, x.m, x.n); got != first {
				t.Errorf("%x %d from %d: %d, want %d", x.m, x.n, at, got, first)
			}
		}
	}
}

func TestNoPattern(t *testing.T) {
	for _, n := range []int{0, -1, 65, 66, 128, math.MinInt, math.MaxInt} {
		for _, m := range []uint64{0, 1, math.MaxUint64} {
			if magic.Match("\x00\x00\x00\x00\x00\x00\x00\x00\x00", 0, m, n) || magic.Match("", 0, m, n) {
				t.Error("match", m, n)
			}
			if at := magic.Find(text, 0, m, n); at != -1 {
				t.Error("find", m, n, at)
			}
			if l := magic.All(text, m, n); len(l) != 0 {
				t.Error("all", m, n, l)
			}
		}
	}
}

func TestFarPlaces(t *testing.T) {
	for _, at := range []int{-1, math.MinInt, math.MaxInt, math.MaxInt - 7, 8 * len(text), 8*len(text) + 1} {
		if magic.Match(text, at, 0, 1) || magic.Match(text, at, 1, 1) {
			t.Error("match", at)
		}
	}
	for _, from := range []int{math.MaxInt, math.MaxInt - 1, 8 * len(text), 8*len(text) + 1} {
		if at := magic.Find(text, from, 0, 1); at != -1 {
			t.Error("find", from, at)
		}
	}
	for _, from := range []int{-1, -8, -100, math.MinInt} {
		if at := magic.Find(text, from, 1, 1); at != 5 {
			t.Error("find", from, at)
		}
	}
	if at := magic.Find("", 0, 0, 1); at != -1 {
		t.Error(at)
	}
	if l := magic.All("", 0, 1); len(l) != 0 {
		t.Error(l)
	}
	if !magic.Match("\x01", 7, 1, 1) || magic.Match("\x01", 7, 2, 2) {
		t.Error("at the end")
	}
}

func TestBytesAheadMoveWhatIsFound(t *testing.T) {
	alone := magic.All(text, 0x59, 7)
	if len(alone) == 0 {
		t.Fatal("nothing to move")
	}
	for ahead := range 5 {
		with := magic.All(strings.Repeat("\x00", ahead)+text, 0x59, 7)
		var moved []int
		for _, at := range alone {
			moved = append(moved, at+8*ahead)
		}
		if !slices.Equal(with, moved) {
			t.Error(ahead, with, moved)
		}
	}
}

func TestAnswersAreNewMemory(t *testing.T) {
	one := magic.All(text, 5, 3)
	want := slices.Clone(one)
	two := magic.All(text, 5, 3)
	for i := range two {
		two[i] = -7
	}
	if !slices.Equal(one, want) || !slices.Equal(magic.All(text, 5, 3), want) {
		t.Error("an answer is changed by another one")
	}
}
