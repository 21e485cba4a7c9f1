package bits_test

import (
	"math"
	"strings"
	"testing"

	"pressmark/api"
	"pressmark/bits"
)

// spell is all bits of a text as digits, made the slow way.
func spell(s string) string {
	var b strings.Builder
	for i := 0; i < len(s); i++ {
		for k := 7; k >= 0; k-- {
			b.WriteByte('0' + s[i]>>k&1)
		}
	}
	return b.String()
}

// of is the bits that digits spell.
func of(digits string) api.Bits {
	data := make([]byte, (len(digits)+7)/8)
	for i := range digits {
		if digits[i] == '1' {
			data[i/8] |= 128 >> (i % 8)
		}
	}
	return api.Bits{Data: string(data), N: len(digits)}
}

// number is what digits to the base two tell.
func number(digits string) uint64 {
	var v uint64
	for i := range digits {
		v = 2*v + uint64(digits[i]-'0')
	}
	return v
}

// row is n digits that look as if by chance, the same ones each time.
func row(n int, seed uint64) string {
	var b strings.Builder
	for range n {
		seed = seed*6364136223846793005 + 1442695040888963407
		b.WriteByte('0' + byte(seed>>63))
	}
	return b.String()
}

var wrongBits = []api.Bits{
	{N: -1}, {Data: "\x00", N: -1}, {Data: "\x00", N: -7}, {Data: "\x00\x00", N: -9}, {N: 1}, {N: -8}, {Data: "a"}, {Data: "a", N: -8}, {Data: "\x80", N: 9}, {Data: "\x80\x00", N: 8},
	{Data: "\x01", N: 7}, {Data: "\x80", N: 0}, {Data: "\xff\xff", N: 15}, {Data: "\x40", N: 1}, {Data: "\x00", N: 0},
	{N: math.MaxInt}, {N: math.MinInt}, {N: math.MaxInt - 7}, {Data: "\x00", N: math.MinInt + 8},
}

func TestRight(t *testing.T) {
	for _, b := range wrongBits {
		if bits.Right(b) {
			t.Errorf("%q %d is right", b.Data, b.N)
		}
	}
	for n := range 70 {
		if b := of(row(n, uint64(n))); !bits.Right(b) {
			t.Errorf("%q %d is not right", b.Data, b.N)
		}
	}
	for n := 1; n < 8; n++ {
		for k := range 8 {
			b := api.Bits{Data: "\xff" + string([]byte{1 << k}), N: 8 + n}
			if bits.Right(b) != (k >= 8-n) {
				t.Errorf("%q %d", b.Data, b.N)
			}
		}
	}
}

func TestPutExample(t *testing.T) {
	b, e := bits.Put(api.Bits{}, 5, 3)
	if b != of("101") || e != api.OK {
		t.Fatalf("%q %d %d", b.Data, b.N, e)
	}
	b, e = bits.Put(b, 1, 2)
	if b != (api.Bits{Data: "\xa8", N: 5}) || e != api.OK {
		t.Fatalf("%q %d %d", b.Data, b.N, e)
	}
	if v, e := bits.Get(b.Data, 2, 3); v != 5 || e != api.OK {
		t.Fatal(v, e)
	}
}

func TestPutAnywhere(t *testing.T) {
	for ahead := range 20 {
		for n := range 65 {
			before, digits := row(ahead, uint64(n+100)), row(n, uint64(ahead))
			v := number(digits)
			if n < 64 {
				v |= math.MaxUint64 << n
			}
			b, e := bits.Put(of(before), v, n)
			if b != of(before+digits) || e != api.OK {
				t.Fatalf("%d %d: %q %d %d", ahead, n, b.Data, b.N, e)
			}
			if got, e := bits.Get(b.Data, ahead, n); got != number(digits) || e != api.OK {
				t.Fatalf("%d %d: %x %d", ahead, n, got, e)
			}
			if !bits.Same(b.Data, 0, of(before)) {
				t.Fatal("what was there is changed", ahead, n)
			}
		}
	}
}

func TestPutWrong(t *testing.T) {
	for _, n := range []int{-1, 65, math.MinInt, math.MaxInt} {
		if b, e := bits.Put(of("101"), 1, n); e != api.ErrArg || b != (api.Bits{}) {
			t.Error(n, b, e)
		}
	}
	for _, w := range wrongBits {
		for _, n := range []int{0, 1, 64} {
			if b, e := bits.Put(w, 1, n); e != api.ErrArg || b != (api.Bits{}) {
				t.Errorf("%q %d: %v %d", w.Data, w.N, b, e)
			}
		}
	}
}

func TestCat(t *testing.T) {
	if b, e := bits.Cat(); b != (api.Bits{}) || e != api.OK {
		t.Error(b, e)
	}
	var l []api.Bits
	all := ""
	for n := range 90 {
		digits := row(n*7%83, uint64(n))
		l = append(l, of(digits))
		all += digits
		got, e := bits.Cat(l...)
		if got != of(all) || e != api.OK {
			t.Fatalf("%d: %q %d %d", n, got.Data, got.N, e)
		}
	}
	for cut := range l {
		one, _ := bits.Cat(l[:cut]...)
		two, _ := bits.Cat(l[cut:]...)
		if got, e := bits.Cat(one, two); got != of(all) || e != api.OK {
			t.Fatal(cut, e)
		}
	}
	for _, w := range wrongBits {
		for _, l := range [][]api.Bits{{w}, {w, of("1")}, {of("1"), w}, {{}, w, {}}} {
			if b, e := bits.Cat(l...); e != api.ErrArg || b != (api.Bits{}) {
				t.Errorf("%q %d: %v %d", w.Data, w.N, b, e)
			}
		}
	}
}

func TestCatKeepsWhatIsHandedIn(t *testing.T) {
	l := []api.Bits{of("1"), of("01"), of("11111111")}
	had := []api.Bits{of("1"), of("01"), of("11111111")}
	if _, e := bits.Cat(l[:2]...); e != api.OK {
		t.Error(e)
	}
	for i := range l {
		if l[i] != had[i] {
			t.Error(i, l[i])
		}
	}
}

func TestGetAnywhere(t *testing.T) {
	s := "\x12\x34\x56\x78\x9a\xbc\xde\xf0\x0f\xff\x00\x81"
	digits := spell(s)
	for at := range len(digits) + 3 {
		for n := range 65 {
			v, e := bits.Get(s, at, n)
			if at+n > len(digits) {
				if v != 0 || e != api.ErrShort {
					t.Fatal(at, n, v, e)
				}
			} else if v != number(digits[at:at+n]) || e != api.OK {
				t.Fatal(at, n, v, e)
			}
		}
	}
}

func TestGetWrong(t *testing.T) {
	for i, x := range []struct {
		s     string
		at, n int
		e     api.Errno
	}{
		{"abc", 0, -1, api.ErrArg}, {"abc", 0, 65, api.ErrArg}, {"abc", -1, 1, api.ErrArg}, {"abc", -1, 0, api.ErrArg},
		{"abc", math.MinInt, 3, api.ErrArg}, {"abc", 99, 65, api.ErrArg}, {"abc", -1, 65, api.ErrArg}, {"", 0, math.MaxInt, api.ErrArg},
		{"abc", 0, 25, api.ErrShort}, {"abc", 24, 1, api.ErrShort}, {"abc", 25, 0, api.ErrShort}, {"", 0, 1, api.ErrShort},
		{"", 1, 0, api.ErrShort}, {"abc", math.MaxInt, 0, api.ErrShort}, {"abc", math.MaxInt, 64, api.ErrShort}, {"abc", math.MaxInt - 63, 64, api.ErrShort},
	} {
		if v, e := bits.Get(x.s, x.at, x.n); v != 0 || e != x.e {
			t.Error(i, v, e)
		}
	}
	if v, e := bits.Get("", 0, 0); v != 0 || e != api.OK {
		t.Error(v, e)
	}
}

func TestSame(t *testing.T) {
	s := "\x12\x34\x56\x78\x9a\xbc\xde\xf0\x0f\xff\x00\x81\x12\x34\x56\x78\x9a\xbc\xde\xf0\x0f\xff"
	digits := spell(s)
	for at := range len(digits) + 1 {
		for _, n := range []int{0, 1, 7, 8, 9, 63, 64, 65, 100, 129} {
			if at+n > len(digits) {
				if bits.Same(s, at, of(strings.Repeat("0", n))) {
					t.Fatal(at, n)
				}
				continue
			}
			if !bits.Same(s, at, of(digits[at:at+n])) {
				t.Fatal(at, n)
			}
			for _, k := range []int{0, n / 2, n - 1} {
				if n == 0 {
					continue
				}
				other := []byte(digits[at : at+n])
				other[k] ^= 1
				if bits.Same(s, at, of(string(other))) {
					t.Fatal(at, n, k)
				}
			}
		}
	}
}

func TestSameWrong(t *testing.T) {
	for _, w := range wrongBits {
		if bits.Same("\x00\x00\x00", 0, w) {
			t.Errorf("%q %d", w.Data, w.N)
		}
	}
	for _, at := range []int{-1, 25, math.MinInt, math.MaxInt} {
		if bits.Same("abc", at, api.Bits{}) {
			t.Error(at)
		}
	}
	if !bits.Same("abc", 24, api.Bits{}) || !bits.Same("", 0, api.Bits{}) {
		t.Error("no bits stand at the end")
	}
	if bits.Same("abc", math.MaxInt, of("1")) || bits.Same("abc", 24, of("0")) || bits.Same("\x00", -1, of("0")) {
		t.Error("behind the end")
	}
}
