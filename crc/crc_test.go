package crc_test

import (
	"math"
	"slices"
	"strings"
	"testing"

	"pressmark/crc"
)

// slow takes bytes up bit by bit, as the words have it.
func slow(c uint32, s string) uint32 {
	c ^= math.MaxUint32
	for i := range len(s) {
		for k := 7; k >= 0; k-- {
			bit := uint32(s[i]>>k) & 1
			top := c >> 31
			c *= 2
			if top != bit {
				c ^= 79764919
			}
		}
	}
	return c ^ math.MaxUint32
}

// chance is n bytes that look as if by chance, the same ones each time.
func chance(n int, seed uint64) string {
	b := make([]byte, n)
	for i := range b {
		seed = seed*6364136223846793005 + 1442695040888963407
		b[i] = byte(seed >> 56)
	}
	return string(b)
}

func TestSumExamples(t *testing.T) {
	for s, want := range map[string]uint32{"": 0, "123456789": 4236843288, "\x00": 0xb1f7404b, "\xff": 255, "\x00\x00\x00\x00": 0x38fb2284} {
		if got := crc.Sum(s); got != want {
			t.Errorf("%q: %d, want %d", s, got, want)
		}
	}
}

func TestMore(t *testing.T) {
	starts := []uint32{0, 1, 1 << 31, math.MaxUint32, 0x80000001, 12345678}
	for n := range 50 {
		s := chance(n, uint64(n))
		if crc.Sum(s) != slow(0, s) {
			t.Error(n, crc.Sum(s))
		}
		for _, c := range starts {
			if got := crc.More(c, s); got != slow(c, s) {
				t.Error(n, c, got)
			}
		}
	}
	for b := range 256 {
		if s := string([]byte{byte(b)}); crc.Sum(s) != slow(0, s) {
			t.Error(b)
		}
	}
	for _, c := range starts {
		if crc.More(c, "") != c {
			t.Error(c)
		}
	}
}

func TestMoreGoesOn(t *testing.T) {
	s := chance(40, 7)
	for k := range len(s) + 1 {
		if crc.More(crc.Sum(s[:k]), s[k:]) != crc.Sum(s) {
			t.Error(k)
		}
	}
}

func TestUnlikeSums(t *testing.T) {
	s := chance(12, 3)
	seen := map[uint32]bool{crc.Sum(s): true}
	for at := range 8*len(s) - 31 {
		for _, turn := range []uint64{1, 1<<31 | 1, 1<<32 - 1, 1<<31 | 1<<7 | 1} {
			b := []byte(s)
			for k := range 32 {
				if turn>>k&1 == 1 {
					b[(at+k)/8] ^= 128 >> ((at + k) % 8)
				}
			}
			if crc.Sum(string(b)) == crc.Sum(s) {
				t.Error(at, turn)
			}
			seen[crc.Sum(string(b))] = true
		}
	}
	if len(seen) < 4*(8*len(s)-31) {
		t.Error("many sums are the same", len(seen))
	}
}

func TestThreeTexts(t *testing.T) {
	a, b, c := chance(33, 1), chance(33, 2), chance(33, 3)
	x := make([]byte, 33)
	for i := range x {
		x[i] = a[i] ^ b[i] ^ c[i]
	}
	if crc.Sum(string(x)) != crc.Sum(a)^crc.Sum(b)^crc.Sum(c) {
		t.Error("three texts")
	}
}

func TestFold(t *testing.T) {
	for i, x := range []struct{ all, block, want uint32 }{
		{1 << 31, 0, 1}, {0, 0, 0}, {1, 0, 2}, {0, 5, 5}, {1<<31 | 1, 1, 2}, {1 << 30, 0, 1 << 31},
		{math.MaxUint32, 0, math.MaxUint32}, {math.MaxUint32, math.MaxUint32, 0}, {0xdeadbeef, 0x12345678, 0xbd5b7ddf ^ 0x12345678},
	} {
		if got := crc.Fold(x.all, x.block); got != x.want {
			t.Errorf("%d: %x", i, got)
		}
		if got := crc.Unfold(x.want, x.block); got != x.all {
			t.Errorf("%d: %x", i, got)
		}
	}
	for k := range 32 {
		if crc.Fold(1<<k, 0) != 1<<((k+1)%32) || crc.Unfold(1<<((k+1)%32), 0) != 1<<k {
			t.Error(k)
		}
	}
}

func TestAll(t *testing.T) {
	if crc.All() != 0 || crc.All(7) != 7 || crc.All(1<<31, 0) != 1 || crc.All(1, 2) != 0 || crc.All(2, 1) != 5 {
		t.Error(crc.All(), crc.All(7), crc.All(1<<31, 0), crc.All(1, 2), crc.All(2, 1))
	}
	l := []uint32{0xdeadbeef, 1, math.MaxUint32, 0x80000000, 5, 0}
	had := slices.Clone(l)
	want := uint32(0)
	for i, b := range l {
		want = crc.Fold(want, b)
		if got := crc.All(l[:i+1]...); got != want {
			t.Error(i, got, want)
		}
	}
	if !slices.Equal(l, had) {
		t.Error("what was handed in is changed")
	}
}

func TestLongText(t *testing.T) {
	s := strings.Repeat(chance(1000, 9), 300)
	if crc.Sum(s) != slow(0, s) {
		t.Error("long")
	}
}
