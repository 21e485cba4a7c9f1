package delta_test

import (
	"math"
	"slices"
	"strings"
	"testing"

	"pressmark/api"
	"pressmark/delta"
)

// of is the bits that digits spell.
func of(digits string) api.Bits {
	data := make([]byte, (len(digits)+7)/8)
	for i := range digits {
		if digits[i] == '1' {
			data[i/8] |= 128 >> (i % 8)
		}
	}
	return api.Bits{Data: string(data), N: len(digits)}
}

// five is a number's lowest five bits, as digits.
func five(n int) string {
	w := ""
	for k := 4; k >= 0; k-- {
		w += string('0' + rune(n>>k&1))
	}
	return w
}

// slow is Put by its words, as digits.
func slow(lens []int) string {
	w := five(lens[0])
	ahead := lens[0]
	for _, n := range lens {
		w += strings.Repeat("10", max(0, n-ahead)) + strings.Repeat("11", max(0, ahead-n)) + "0"
		ahead = n
	}
	return w
}

func alike(n, k int) []int { return slices.Repeat([]int{n}, k) }

func lists() [][]int {
	l := [][]int{{3, 4, 4, 2}, {1, 1}, {20, 20}, {1, 20}, {20, 1}, {1, 20, 1, 20}, alike(7, 258), alike(1, 258), {5, 4, 3, 2, 1, 2, 3, 4, 5, 6}}
	var saw, chance []int
	seed := uint64(5)
	for k := range 258 {
		saw = append(saw, 1+19*(k%2))
		seed = seed*6364136223846793005 + 1442695040888963407
		chance = append(chance, 1+int(seed>>33)%20)
	}
	for n := 2; n < 30; n++ {
		l = append(l, chance[n:2*n])
	}
	return append(l, saw, chance)
}

func TestExample(t *testing.T) {
	if b, e := delta.Put([]int{3, 4, 4, 2}); b != of("00011"+"0"+"100"+"0"+"11110") || e != api.OK {
		t.Errorf("%q %d %d", b.Data, b.N, e)
	}
	for n := 1; n <= 20; n++ {
		if b, e := delta.Put(alike(n, 9)); b.N != 14 || b != of(five(n)+"000000000") || e != api.OK {
			t.Errorf("%q %d %d", b.Data, b.N, e)
		}
	}
}

func TestPutAndTake(t *testing.T) {
	for _, lens := range lists() {
		had := slices.Clone(lens)
		digits := slow(lens)
		b, e := delta.Put(lens)
		if b != of(digits) || e != api.OK {
			t.Fatal(lens, b, e)
		}
		if !slices.Equal(lens, had) {
			t.Fatal("changed", lens)
		}
		for _, ahead := range []string{"", "1", "0110101", "01101011", "111000111000"} {
			for _, behind := range []string{"", "1", "10101010101"} {
				got, next, e := delta.Take(of(ahead+digits+behind).Data, len(ahead), len(lens))
				if !slices.Equal(got, lens) || next != len(ahead)+len(digits) || e != api.OK {
					t.Fatal(lens, ahead, behind, got, next, e)
				}
			}
		}
	}
}

func TestPutWrong(t *testing.T) {
	for _, lens := range [][]int{nil, {}, {1}, {20}, alike(3, 259), alike(3, 1000), {0, 1}, {1, 0}, {21, 20}, {20, 21}, {-1, 1}, {1, 1, -5, 1}, {math.MaxInt, 1}, {1, math.MinInt}, {1, 1<<32 + 1}} {
		if b, e := delta.Put(lens); b != (api.Bits{}) || e != api.ErrArg {
			t.Error(lens, b, e)
		}
	}
}

func TestTakeOfDigits(t *testing.T) {
	up, down := strings.Repeat("10", 19), strings.Repeat("11", 19)
	for i, x := range []struct {
		digits string
		n      int
		lens   []int
		next   int
		e      api.Errno
	}{
		{five(1) + "00", 2, []int{1, 1}, 7, api.OK}, {five(1) + up + "0" + down + "0", 2, []int{20, 1}, 83, api.OK}, {five(20) + down + "0" + up + "0", 2, []int{1, 20}, 83, api.OK},
		{five(5) + "10110" + "11100", 2, []int{5, 5}, 15, api.OK}, {five(5) + "101110" + "1111100", 2, nil, 0, api.ErrShort},
		{five(0) + "000", 2, nil, 0, api.ErrForm}, {five(21) + "000", 2, nil, 0, api.ErrForm}, {five(31) + "000", 2, nil, 0, api.ErrForm}, {five(20) + "000", 3, []int{20, 20, 20}, 8, api.OK},
		{five(20) + "10" + "110" + "0", 2, nil, 0, api.ErrForm}, {five(1) + "11" + "100" + "0", 2, nil, 0, api.ErrForm}, {five(19) + "1010" + "11110" + "0", 2, nil, 0, api.ErrForm}, {five(2) + "0" + "1111", 2, nil, 0, api.ErrForm},
		{five(20) + "10", 2, nil, 0, api.ErrForm}, {five(1) + "11", 2, nil, 0, api.ErrForm}, {five(0), 258, nil, 0, api.ErrForm},
	} {
		// Digits are read from where no whole byte begins, so that what is lacking is lacking by the bit.
		ahead := (16 - len(x.digits)%8) % 8
		lens, next, e := delta.Take(of(strings.Repeat("1", ahead)+x.digits).Data, ahead, x.n)
		if x.e == api.OK {
			x.next += ahead
		}
		if !slices.Equal(lens, x.lens) || next != x.next || e != x.e {
			t.Error(i, lens, next, e)
		}
	}
}

func TestTakeShort(t *testing.T) {
	digits := slow([]int{3, 4, 4, 2, 9, 1})
	for n := range digits {
		ahead := (16 - n%8) % 8
		lens, next, e := delta.Take(of(strings.Repeat("0", ahead)+digits[:n]).Data, ahead, 6)
		if len(lens) != 0 || next != 0 || e != api.ErrShort {
			t.Error(n, lens, next, e)
		}
	}
	for _, at := range []int{40, 41, 100, math.MaxInt, math.MaxInt - 4} {
		if lens, next, e := delta.Take("abcde", at, 2); len(lens) != 0 || next != 0 || e != api.ErrShort {
			t.Error(at, lens, next, e)
		}
	}
}

func TestTakeWrong(t *testing.T) {
	for i, x := range []struct {
		s     string
		at, n int
	}{
		{"", -1, 2}, {"abc", -1, 2}, {"abc", math.MinInt, 5}, {"abc", 0, 1}, {"abc", 0, 0}, {"abc", 0, -1}, {"abc", 0, 259}, {"", 0, 1}, {"", 0, 259}, {"", 99, math.MaxInt}, {"", 0, math.MinInt}, {"\x00", 0, 1},
	} {
		if lens, next, e := delta.Take(x.s, x.at, x.n); len(lens) != 0 || next != 0 || e != api.ErrArg {
			t.Error(i, lens, next, e)
		}
	}
	if lens, next, e := delta.Take("\x08"+strings.Repeat("\x00", 33), 0, 258); len(lens) != 258 || next != 263 || e != api.OK {
		t.Error(len(lens), next, e)
	}
}

func TestMemory(t *testing.T) {
	s := of(slow([]int{3, 4, 4, 2})).Data
	one, _, _ := delta.Take(s, 0, 4)
	two, _, _ := delta.Take(s, 0, 4)
	for i := range two[:cap(two)] {
		two[:cap(two)][i] = 9
	}
	if !slices.Equal(one, []int{3, 4, 4, 2}) {
		t.Error("an answer is changed by another one", one)
	}
}
