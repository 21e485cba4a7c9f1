package zero_test

import (
	"math"
	"slices"
	"testing"

	"pressmark/api"
	"pressmark/zero"
)

// worth is what digits tell, by their words.
func worth(d []int) int {
	n := 0
	for i, v := range d {
		n += (v + 1) * (1 << i)
	}
	return n
}

// chance is n numbers, many of them 0, that look as if by chance, the same ones each time.
func chance(n int, seed uint64) []int {
	l := make([]int, n)
	for i := range l {
		seed = seed*6364136223846793005 + 1442695040888963407
		if seed>>62 == 3 {
			l[i] = int(seed>>40) & 15
		}
	}
	return l
}

func row(v, n int) []int { return slices.Repeat([]int{v}, n) }

func TestDigits(t *testing.T) {
	for n, want := range map[int][]int{0: {}, 1: {0}, 2: {1}, 3: {0, 0}, 4: {1, 0}, 5: {0, 1}, 6: {1, 1}, 7: {0, 0, 0}, -1: {}, -7: {}, math.MinInt: {}} {
		if got := zero.Digits(n); !slices.Equal(got, want) {
			t.Error(n, got, want)
		}
	}
	seen := map[string]bool{}
	for n := range 3000 {
		d := zero.Digits(n)
		key := ""
		for _, v := range d {
			key += string(rune('0' + v))
		}
		if worth(d) != n || seen[key] {
			t.Error(n, d)
		}
		seen[key] = true
	}
	for _, n := range []int{1<<40 - 1, 1 << 40, 1<<40 + 1, 1<<62 - 1, 1 << 62} {
		d := zero.Digits(n)
		for _, v := range d {
			if v != 0 && v != 1 {
				t.Error(n, d)
			}
		}
		if worth(d) != n {
			t.Error(n, d)
		}
	}
	if d := zero.Digits(math.MaxInt); !slices.Equal(d, row(0, 63)) {
		t.Error(d)
	}
}

func TestNumber(t *testing.T) {
	for n := range 3000 {
		if got, e := zero.Number(zero.Digits(n)); got != n || e != api.OK {
			t.Error(n, got, e)
		}
	}
	for i, x := range []struct {
		d []int
		n int
		e api.Errno
	}{
		{nil, 0, api.OK}, {[]int{0}, 1, api.OK}, {[]int{1, 1}, 6, api.OK},
		{zero.Digits(1 << 40), 1 << 40, api.OK}, {zero.Digits(1<<40 - 1), 1<<40 - 1, api.OK}, {zero.Digits(1<<40 + 1), 0, api.ErrLong},
		{row(0, 40), 1<<40 - 1, api.OK}, {row(1, 40), 0, api.ErrLong}, {row(1, 39), 1<<40 - 2, api.OK}, {row(0, 41), 0, api.ErrLong}, {row(1, 41), 0, api.ErrLong}, {row(0, 63), 0, api.ErrLong},
		{row(0, 64), 0, api.ErrLong}, {row(1, 63), 0, api.ErrLong}, {row(1, 64), 0, api.ErrLong}, {row(0, 65), 0, api.ErrLong}, {row(0, 5000), 0, api.ErrLong},
		{[]int{2}, 0, api.ErrArg}, {[]int{-1}, 0, api.ErrArg}, {[]int{0, 0, 2}, 0, api.ErrArg}, {append(row(0, 100), 2), 0, api.ErrArg}, {append([]int{-1}, row(0, 100)...), 0, api.ErrArg},
		{[]int{math.MaxInt}, 0, api.ErrArg}, {[]int{math.MinInt}, 0, api.ErrArg}, {[]int{1 << 32}, 0, api.ErrArg},
	} {
		if n, e := zero.Number(x.d); n != x.n || e != x.e {
			t.Error(i, n, e)
		}
	}
}

func TestEncode(t *testing.T) {
	for i, x := range []struct {
		l, want []int
		e       api.Errno
	}{
		{nil, nil, api.OK}, {[]int{0, 0, 0, 5, 0}, []int{0, 0, 6, 0}, api.OK}, {[]int{1}, []int{2}, api.OK}, {[]int{0}, []int{0}, api.OK}, {[]int{0, 0}, []int{1}, api.OK},
		{[]int{1, 0, 0, 1}, []int{2, 1, 2}, api.OK}, {[]int{7, 8}, []int{8, 9}, api.OK}, {row(0, 6), []int{1, 1}, api.OK}, {row(0, 7), []int{0, 0, 0}, api.OK}, {[]int{0, 3, 0, 0, 3}, []int{0, 4, 1, 4}, api.OK},
		{[]int{1 << 40}, []int{1<<40 + 1}, api.OK}, {[]int{1<<40 + 1}, nil, api.ErrArg}, {[]int{-1}, nil, api.ErrArg}, {[]int{0, 0, -1}, nil, api.ErrArg}, {[]int{1, 2, 3, 1<<40 + 1, 0}, nil, api.ErrArg}, {[]int{math.MaxInt}, nil, api.ErrArg}, {[]int{math.MinInt, 0}, nil, api.ErrArg},
	} {
		if got, e := zero.Encode(x.l); !slices.Equal(got, x.want) || e != x.e {
			t.Error(i, got, e)
		}
	}
}

func TestDecode(t *testing.T) {
	for i, x := range []struct {
		m    []int
		most int
		want []int
		e    api.Errno
	}{
		{nil, 0, nil, api.OK}, {nil, -1, nil, api.ErrLong}, {nil, math.MinInt, nil, api.ErrLong}, {nil, math.MaxInt, nil, api.OK},
		{[]int{0, 0, 6, 0}, 5, []int{0, 0, 0, 5, 0}, api.OK}, {[]int{0, 0, 6, 0}, 4, nil, api.ErrLong}, {[]int{0, 0, 6, 0}, 3, nil, api.ErrLong}, {[]int{0, 0, 6, 0}, 2, nil, api.ErrLong}, {[]int{0, 0, 6, 0}, -1, nil, api.ErrLong},
		{[]int{0}, 1, []int{0}, api.OK}, {[]int{0}, 0, nil, api.ErrLong}, {[]int{1}, 2, []int{0, 0}, api.OK}, {[]int{1}, 1, nil, api.ErrLong}, {[]int{2}, 1, []int{1}, api.OK}, {[]int{2}, 0, nil, api.ErrLong}, {[]int{2, 3}, 1, nil, api.ErrLong}, {[]int{2, 3}, 2, []int{1, 2}, api.OK},
		{[]int{2, 0}, 1, nil, api.ErrLong}, {[]int{2, 0}, 2, []int{1, 0}, api.OK}, {[]int{0, 2, 0}, 2, nil, api.ErrLong}, {[]int{1, 1, 9, 1, 1}, 13, append(append(row(0, 6), 8), row(0, 6)...), api.OK}, {[]int{1, 1, 9, 1, 1}, 12, nil, api.ErrLong},
		{[]int{math.MaxInt}, 1, []int{math.MaxInt - 1}, api.OK}, {[]int{math.MaxInt, 0}, math.MaxInt, []int{math.MaxInt - 1, 0}, api.OK},
		{[]int{-1}, 5, nil, api.ErrArg}, {[]int{0, 0, -1}, 0, nil, api.ErrArg}, {append(row(0, 50), -1), 5, nil, api.ErrArg}, {[]int{math.MinInt}, -1, nil, api.ErrArg},
		{row(0, 40), 1<<40 - 2, nil, api.ErrLong}, {row(1, 40), math.MaxInt, nil, api.ErrLong}, {row(0, 41), math.MaxInt, nil, api.ErrLong}, {row(0, 64), math.MaxInt, nil, api.ErrLong}, {row(1, 70), math.MaxInt, nil, api.ErrLong}, {append(row(1, 30), append([]int{2}, row(1, 40)...)...), math.MaxInt, nil, api.ErrLong},
		{append(zero.Digits(1<<40+1), 2), math.MaxInt, nil, api.ErrLong}, {append([]int{2}, zero.Digits(1<<40)...), 1 << 40, nil, api.ErrLong}, {zero.Digits(1 << 40), 1<<40 - 1, nil, api.ErrLong},
	} {
		if got, e := zero.Decode(x.m, x.most); !slices.Equal(got, x.want) || e != x.e {
			t.Error(i, got, e)
		}
	}
}

// What is too long is not laid at all, however late it is met.
func TestDecodeOfManyGreatRows(t *testing.T) {
	var m []int
	for range 1000 {
		m = append(append(m, zero.Digits(1<<40)...), 2)
	}
	for _, most := range []int{1 << 49, 1<<40 + 1, 1 << 40, 1000, 5, 0, -1} {
		if got, e := zero.Decode(m, most); len(got) != 0 || e != api.ErrLong {
			t.Error(most, len(got), e)
		}
	}
	m = append(m, zero.Digits(1<<40+1)...)
	if got, e := zero.Decode(m, math.MaxInt); len(got) != 0 || e != api.ErrLong {
		t.Error(len(got), e)
	}
}

func TestThereAndBack(t *testing.T) {
	for n := range 200 {
		l := chance(n, uint64(n))
		m, e := zero.Encode(l)
		if e != api.OK {
			t.Fatal(l, e)
		}
		for _, most := range []int{n, n + 1, math.MaxInt} {
			if got, e := zero.Decode(m, most); !slices.Equal(got, l) || e != api.OK {
				t.Fatal(l, m, got, e)
			}
		}
		if got, e := zero.Decode(m, n-1); len(got) != 0 || e != api.ErrLong {
			t.Fatal(l, m, got, e)
		}
	}
	for n := range 400 {
		l := row(0, n)
		m, _ := zero.Encode(l)
		if !slices.Equal(m, zero.Digits(n)) {
			t.Fatal(n, m)
		}
	}
	for k := range 1 << 12 {
		m := []int{k & 3, k >> 2 & 3, k >> 4 & 3, k >> 6 & 3, k >> 8 & 3, k >> 10 & 3}
		l, e := zero.Decode(m, 1000)
		again, e2 := zero.Encode(l)
		if !slices.Equal(again, m) || e != api.OK || e2 != api.OK {
			t.Fatal(m, l, again)
		}
	}
}

func TestMemory(t *testing.T) {
	l := []int{0, 0, 3, 0, 77, 77}
	m, _ := zero.Encode(l[:4])
	if !slices.Equal(l, []int{0, 0, 3, 0, 77, 77}) {
		t.Error("changed", l)
	}
	m2, _ := zero.Encode(l[:4])
	for i := range m2[:cap(m2)] {
		m2[:cap(m2)][i] = 9
	}
	if !slices.Equal(m, []int{1, 4, 0}) {
		t.Error("an answer is changed by another one", m)
	}
	in := []int{1, 4, 0, 55}
	out, _ := zero.Decode(in[:3], 10)
	for i := range out[:cap(out)] {
		out[:cap(out)][i] = 9
	}
	if !slices.Equal(in, []int{1, 4, 0, 55}) {
		t.Error("changed", in)
	}
	one, two := zero.Digits(9), zero.Digits(9)
	for i := range two[:cap(two)] {
		two[:cap(two)][i] = 5
	}
	if worth(one) != 9 {
		t.Error("an answer is changed by another one", one)
	}
}
