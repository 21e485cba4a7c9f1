package selectors_test

import (
	"math"
	"slices"
	"strings"
	"testing"

	"pressmark/api"
	"pressmark/selectors"
)

// of is the bits that digits spell.
func of(digits string) api.Bits {
	data := make([]byte, (len(digits)+7)/8)
	for i := range digits {
		if digits[i] == '1' {
			data[i/8] |= 128 >> (i % 8)
		}
	}
	return api.Bits{Data: string(data), N: len(digits)}
}

// slow is Put by its words, as digits.
func slow(chosen []int, tables int) string {
	var row []int
	for i := range tables {
		row = append(row, i)
	}
	var w strings.Builder
	for _, v := range chosen {
		at := slices.Index(row, v)
		w.WriteString(strings.Repeat("1", at) + "0")
		row = append([]int{v}, slices.Delete(row, at, at+1)...)
	}
	return w.String()
}

// chance is n numbers below most that look as if by chance, the same ones each time.
func chance(n, most int, seed uint64) []int {
	l := make([]int, n)
	for i := range l {
		seed = seed*6364136223846793005 + 1442695040888963407
		l[i] = int(seed>>33) % most
	}
	return l
}

func TestExample(t *testing.T) {
	if b, e := selectors.Put([]int{1, 1, 0, 2}, 3); b != of("10"+"0"+"10"+"110") || e != api.OK {
		t.Errorf("%q %d %d", b.Data, b.N, e)
	}
	if b, e := selectors.Put([]int{5, 4, 3, 2, 1, 0}, 6); b != of(strings.Repeat("111110", 6)) || e != api.OK {
		t.Errorf("%q %d %d", b.Data, b.N, e)
	}
	if b, e := selectors.Put(slices.Repeat([]int{0}, 19), 2); b != of(strings.Repeat("0", 19)) || e != api.OK {
		t.Errorf("%q %d %d", b.Data, b.N, e)
	}
}

func TestPutAndTake(t *testing.T) {
	for tables := 2; tables <= 6; tables++ {
		for _, n := range []int{0, 1, 2, 3, 10, 77, 1000} {
			chosen := chance(n, tables, uint64(n*10+tables))
			had := slices.Clone(chosen)
			digits := slow(chosen, tables)
			b, e := selectors.Put(chosen, tables)
			if b != of(digits) || e != api.OK {
				t.Fatal(tables, n, e)
			}
			if !slices.Equal(chosen, had) {
				t.Fatal("changed", chosen)
			}
			for _, ahead := range []string{"", "1", "0110101", "01101011", "111000111000"} {
				for _, behind := range []string{"", "1", "1111111111111"} {
					got, next, e := selectors.Take(of(ahead+digits+behind).Data, len(ahead), n, tables)
					if !slices.Equal(got, chosen) || next != len(ahead)+len(digits) || e != api.OK {
						t.Fatal(tables, n, got, next, e)
					}
				}
			}
		}
	}
}

func TestPutWrong(t *testing.T) {
	for i, x := range []struct {
		chosen []int
		tables int
		e      api.Errno
	}{
		{nil, 1, api.ErrArg}, {nil, 0, api.ErrArg}, {nil, -1, api.ErrArg}, {nil, 7, api.ErrArg}, {[]int{0}, 1, api.ErrArg}, {[]int{9}, 7, api.ErrArg}, {[]int{-1}, 1, api.ErrArg}, {nil, math.MaxInt, api.ErrArg}, {nil, math.MinInt, api.ErrArg},
		{[]int{2}, 2, api.ErrNone}, {[]int{-1}, 2, api.ErrNone}, {[]int{6}, 6, api.ErrNone}, {[]int{0, 1, 3}, 3, api.ErrNone}, {[]int{0, -1, 1}, 3, api.ErrNone}, {[]int{math.MaxInt}, 6, api.ErrNone}, {[]int{math.MinInt}, 6, api.ErrNone}, {[]int{0, 5}, 5, api.ErrNone},
	} {
		if b, e := selectors.Put(x.chosen, x.tables); b != (api.Bits{}) || e != x.e {
			t.Error(i, b, e)
		}
	}
	if b, e := selectors.Put(nil, 2); b != (api.Bits{}) || e != api.OK {
		t.Error(b, e)
	}
}

func TestTakeOfDigits(t *testing.T) {
	for i, x := range []struct {
		digits    string
		n, tables int
		chosen    []int
		e         api.Errno
	}{
		{"0", 1, 2, []int{0}, api.OK}, {"10", 1, 2, []int{1}, api.OK}, {"11", 1, 2, nil, api.ErrForm}, {"1", 1, 2, nil, api.ErrShort}, {"", 1, 2, nil, api.ErrShort}, {"110", 1, 3, []int{2}, api.OK}, {"111", 1, 3, nil, api.ErrForm}, {"11", 1, 3, nil, api.ErrShort},
		{"111110", 1, 6, []int{5}, api.OK}, {"111111", 1, 6, nil, api.ErrForm}, {"11111", 1, 6, nil, api.ErrShort}, {"0011", 4, 2, nil, api.ErrForm}, {"001", 3, 2, nil, api.ErrShort}, {"00", 3, 2, nil, api.ErrShort}, {"1010100", 4, 2, []int{1, 0, 1, 1}, api.OK}, {"101011", 4, 2, nil, api.ErrForm},
		{"1110" + "1110" + "0" + "1110", 4, 4, []int{3, 2, 2, 1}, api.OK}, {"1110" + "1111", 2, 4, nil, api.ErrForm}, {"1110" + "111", 2, 4, nil, api.ErrShort},
	} {
		// What is lacking is lacking by the bit: digits begin where no byte does.
		ahead := (16 - len(x.digits)%8) % 8
		chosen, next, e := selectors.Take(of(strings.Repeat("1", ahead)+x.digits).Data, ahead, x.n, x.tables)
		want := ahead + len(x.digits)
		if x.e != api.OK {
			want = 0
		}
		if !slices.Equal(chosen, x.chosen) || next != want || e != x.e {
			t.Error(i, chosen, next, e)
		}
	}
}

func TestTakeWrong(t *testing.T) {
	for i, x := range []struct {
		s             string
		at, n, tables int
		e             api.Errno
	}{
		{"abc", 0, 1, 1, api.ErrArg}, {"abc", 0, 1, 7, api.ErrArg}, {"abc", 0, 0, 0, api.ErrArg}, {"abc", -1, 1, 2, api.ErrArg}, {"abc", -1, 0, 2, api.ErrArg}, {"abc", 0, -1, 2, api.ErrArg}, {"abc", 0, 1<<20 + 1, 2, api.ErrArg}, {"", math.MinInt, 1, 2, api.ErrArg}, {"", 0, math.MaxInt, 2, api.ErrArg}, {"", 0, math.MinInt, 2, api.ErrArg}, {"", 0, 1, math.MaxInt, api.ErrArg}, {"", 0, 1, math.MinInt, api.ErrArg},
		{"", 0, 1, 2, api.ErrShort}, {"a", 8, 1, 2, api.ErrShort}, {"a", math.MaxInt, 1, 2, api.ErrShort}, {"\x00", 0, 9, 2, api.ErrShort}, {"\x00", 0, 1 << 20, 2, api.ErrShort}, {"\xff", 0, 1 << 20, 2, api.ErrForm},
	} {
		chosen, next, e := selectors.Take(x.s, x.at, x.n, x.tables)
		if len(chosen) != 0 || next != 0 || e != x.e {
			t.Error(i, chosen, next, e)
		}
	}
}

func TestTakeNone(t *testing.T) {
	for _, at := range []int{0, 5, 8, 9, 100, math.MaxInt} {
		if chosen, next, e := selectors.Take("a", at, 0, 2); len(chosen) != 0 || next != at || e != api.OK {
			t.Error(at, chosen, next, e)
		}
	}
}

func TestTakeMany(t *testing.T) {
	chosen, next, e := selectors.Take(strings.Repeat("\x00", 1<<17), 0, 1<<20, 6)
	if len(chosen) != 1<<20 || next != 1<<20 || e != api.OK || slices.Max(chosen) != 0 {
		t.Error(len(chosen), next, e)
	}
}

func TestMemory(t *testing.T) {
	s := of("10" + "0" + "10" + "110").Data
	one, _, _ := selectors.Take(s, 0, 4, 3)
	two, _, _ := selectors.Take(s, 0, 4, 3)
	for i := range two[:cap(two)] {
		two[:cap(two)][i] = 9
	}
	if !slices.Equal(one, []int{1, 1, 0, 2}) {
		t.Error("an answer is changed by another one", one)
	}
}
