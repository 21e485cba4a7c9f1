package used_test

import (
	"math"
	"strings"
	"testing"

	"pressmark/api"
	"pressmark/bits"
	"pressmark/used"
)

// slowMap is Map by its words, as digits.
func slowMap(s string) string {
	first, rest := "", ""
	for k := range 16 {
		one := ""
		for i := range 16 {
			if strings.IndexByte(s, byte(16*k+i)) >= 0 {
				one += "1"
			} else {
				one += "0"
			}
		}
		if strings.Contains(one, "1") {
			first += "1"
			rest += one
		} else {
			first += "0"
		}
	}
	return first + rest
}

// of is the bits that digits spell.
func of(digits string) api.Bits {
	data := make([]byte, (len(digits)+7)/8)
	for i := range digits {
		if digits[i] == '1' {
			data[i/8] |= 128 >> (i % 8)
		}
	}
	return api.Bits{Data: string(data), N: len(digits)}
}

func every() string {
	b := make([]byte, 256)
	for i := range b {
		b[i] = byte(255 - i)
	}
	return string(b)
}

func texts() []string {
	l := []string{"a", "ba", "banana", "\x00", "\xff", "\xff\x00", "\x0f\x10", "\x0f", "\x10", every(), every() + every(), every()[7:99], "the quick brown fox"}
	for b := range 256 {
		l = append(l, string([]byte{byte(b)}), string([]byte{byte(b), byte(b * 7), byte(b)}))
	}
	return l
}

func TestExample(t *testing.T) {
	if s := used.Alphabet("ba"); s != "ab" {
		t.Error(s)
	}
	if got := used.Map("ba"); got != of("0000001000000000"+"0110000000000000") {
		t.Errorf("%q %d", got.Data, got.N)
	}
}

func TestAlphabet(t *testing.T) {
	for _, s := range texts() {
		want := ""
		for b := range 256 {
			if strings.IndexByte(s, byte(b)) >= 0 {
				want += string([]byte{byte(b)})
			}
		}
		if got := used.Alphabet(s); got != want {
			t.Errorf("%q: %q, want %q", s, got, want)
		}
	}
	if got := used.Alphabet(""); got != "" {
		t.Errorf("%q", got)
	}
}

func TestMap(t *testing.T) {
	for _, s := range append(texts(), "") {
		got := used.Map(s)
		if got != of(slowMap(s)) {
			t.Errorf("%q: %q %d", s, got.Data, got.N)
		}
	}
	if got := used.Map(every()); got.N != 17*16 || strings.Trim(got.Data, "\xff") != "" {
		t.Errorf("%q %d", got.Data, got.N)
	}
}

func TestUnmapAnywhere(t *testing.T) {
	for i, s := range texts() {
		m := used.Map(s)
		for _, ahead := range []int{0, 1, 7, 8, 13} {
			before := of(strings.Repeat("10011", 3)[:ahead])
			all, _ := bits.Cat(before, m)
			for _, behind := range []string{"", "\x00", "\xff\xff\xff"} {
				got, next, e := used.Unmap(all.Data+behind, ahead)
				if got != used.Alphabet(s) || next != ahead+m.N || e != api.OK {
					t.Fatalf("%d %d %q: %q %d %d", i, ahead, behind, got, next, e)
				}
			}
		}
	}
}

func TestUnmapCutOff(t *testing.T) {
	for _, x := range []string{every(), every()[3:200], "a\xffbc", "z"} {
		m := used.Map(x)
		for n := range len(m.Data) {
			for _, ahead := range []int{0, 1, 50} {
				if s, next, e := used.Unmap(strings.Repeat("\xff", ahead)+m.Data[:n], 8*ahead); s != "" || next != 0 || e != api.ErrShort {
					t.Fatalf("%q %d: %q %d %d", x, n, s, next, e)
				}
			}
		}
	}
}

func TestUnmapWrong(t *testing.T) {
	ab, two := of(slowMap("ab")).Data, of(slowMap("a\xff")).Data
	for i, x := range []struct {
		s  string
		at int
		e  api.Errno
	}{
		{ab, -1, api.ErrArg}, {ab, math.MinInt, api.ErrArg}, {"", -1, api.ErrArg},
		{"", 0, api.ErrShort}, {"", 5, api.ErrShort}, {ab, math.MaxInt, api.ErrShort}, {ab, math.MaxInt - 15, api.ErrShort}, {ab, 32, api.ErrShort}, {ab, 33, api.ErrShort},
		{ab[:1], 0, api.ErrShort}, {ab[:2], 0, api.ErrShort}, {ab[:3], 0, api.ErrShort}, {two[:4], 0, api.ErrShort}, {two[:5], 0, api.ErrShort}, {"\xff", 0, api.ErrShort}, {"\x00", 0, api.ErrShort},
		{"\x00\x00", 0, api.ErrForm}, {"\x00\x00\xff\xff", 0, api.ErrForm}, {"\x80\x00\x00\x00", 0, api.ErrForm}, {"\x80\x00\x00\x00\xff", 0, api.ErrForm},
		{"\xc0\x00\x00\x01\x00\x00", 0, api.ErrForm}, {"\xc0\x00\x00\x00\x00\x01", 0, api.ErrForm}, {"\x80\x01\x00\x01\x00\x00", 0, api.ErrForm},
		// What is lacking is told ahead of what is all 0.
		{"\xc0\x00\x00\x00", 0, api.ErrShort}, {"\xc0\x00\x00\x00\x00", 0, api.ErrShort}, {"\xff\xff\x00\x00\x00\x00", 0, api.ErrShort},
		{"\x80\x80\x00\x00\x00", 8, api.ErrForm}, {"\x00\x80\x00\x00\x01", 8, api.OK}, {"\x00\x80\x00\x00", 8, api.ErrShort}, {"\x00\x40\x00\x00\x01", 7, api.ErrForm}, {"\x01\x00\x00\x00", 7, api.ErrShort}, {"\x01\x00\x00\x00\x02", 7, api.OK},
	} {
		s, next, e := used.Unmap(x.s, x.at)
		if e != x.e || e != api.OK && (s != "" || next != 0) {
			t.Errorf("%d: %q %d %d, want %d", i, s, next, e, x.e)
		}
	}
}
