package choose_test

import (
	"math"
	"slices"
	"testing"

	"pressmark/api"
	"pressmark/choose"
	"pressmark/weigh"
)

func alike(v, n int) []int { return slices.Repeat([]int{v}, n) }

// chance is n symbols below most that look as if by chance, the same ones each time; unlike in even and in odd groups.
func chance(n, most int, seed uint64) []int {
	l := make([]int, n)
	for i := range l {
		seed = seed*6364136223846793005 + 1442695040888963407
		l[i] = int(seed>>33) % most
		if i/10%2 == 1 {
			l[i] = l[i] * l[i] / most
		}
	}
	return l
}

func count(n int) []int {
	l := make([]int, n)
	for i := range l {
		l[i] = i
	}
	return l
}

func TestGroups(t *testing.T) {
	for n := range 45 {
		m := count(n)
		l := choose.Groups(m)
		if len(l) != (n+9)/10 {
			t.Fatal(n, l)
		}
		for k, g := range l {
			if !slices.Equal(g, m[10*k:min(10*k+10, n)]) {
				t.Error(n, k, g)
			}
		}
		if !slices.Equal(slices.Concat(l...), m) {
			t.Error(n, l)
		}
	}
	if l := choose.Groups(nil); len(l) != 0 {
		t.Error(l)
	}
}

func TestGroupsAreNewMemory(t *testing.T) {
	m := count(25)
	l := choose.Groups(m)
	other := choose.Groups(m)
	for _, g := range other {
		for i := range g[:cap(g)] {
			g[:cap(g)][i] = -1
		}
	}
	if !slices.Equal(m, count(25)) || !slices.Equal(slices.Concat(l...), m) {
		t.Error("changed", m, l)
	}
	// To grow one group or to write into it changes no other one.
	for k, g := range l {
		g = append(g, -5, -6)
		g[0] = -7
		for i := range g[:cap(g)] {
			g[:cap(g)][i] = -8
		}
		for j := k + 1; j < len(l); j++ {
			if !slices.Equal(l[j], m[10*j:min(10*j+10, 25)]) {
				t.Error(k, j, l[j])
			}
		}
	}
	_ = append(l[:1], nil, nil)
	if !slices.Equal(m, count(25)) {
		t.Error("changed", m)
	}
}

func TestBits(t *testing.T) {
	for i, x := range []struct {
		lens, group []int
		want        int
		e           api.Errno
	}{
		{[]int{2, 1, 2}, []int{0, 1, 2, 1}, 6, api.OK}, {[]int{1, 1}, nil, 0, api.OK}, {[]int{1, 20}, alike(1, 1000), 20000, api.OK}, {[]int{20, 20}, []int{0, 1}, 40, api.OK},
		{nil, nil, 0, api.ErrArg}, {[]int{1}, []int{0}, 0, api.ErrArg}, {[]int{0, 1}, []int{0}, 0, api.ErrArg}, {[]int{21, 1}, []int{0}, 0, api.ErrArg}, {alike(9, 259), []int{0}, 0, api.ErrArg}, {[]int{1, 1, 1}, []int{0}, 0, api.ErrOver}, {[]int{1, 1, 1}, []int{9}, 0, api.ErrOver}, {[]int{1}, []int{-1}, 0, api.ErrArg},
		{[]int{2, 1, 2}, []int{3}, 0, api.ErrNone}, {[]int{2, 1, 2}, []int{0, -1}, 0, api.ErrNone}, {[]int{2, 1, 2}, []int{0, 1, math.MaxInt}, 0, api.ErrNone}, {[]int{2, 1, 2}, []int{math.MinInt, 1}, 0, api.ErrNone},
	} {
		if got, e := choose.Bits(x.lens, x.group); got != x.want || e != x.e {
			t.Error(i, got, e)
		}
	}
}

func TestTables(t *testing.T) {
	for _, x := range []struct{ size, n int }{{1, 2}, {9, 3}, {10, 5}, {11, 5}, {20, 4}, {21, 258}, {200, 20}, {361, 258}, {1000, 7}, {5000, 100}} {
		m := chance(x.size, x.n, uint64(x.size))
		had := slices.Clone(m)
		tables, chosen, e := choose.Tables(m, x.n)
		if e != api.OK || len(tables) != 2 || len(chosen) != (x.size+9)/10 {
			t.Fatal(x, tables, chosen, e)
		}
		if !slices.Equal(m, had) {
			t.Fatal("changed", m)
		}
		weights := [2][]int{make([]int, x.n), make([]int, x.n)}
		for i, s := range m {
			weights[i/10%2][s]++
		}
		for k := range 2 {
			want, _ := weigh.Lengths(weights[k], 20)
			if !slices.Equal(tables[k], want) {
				t.Error(x, k, tables[k], want)
			}
			up := 0
			for _, n := range tables[k] {
				up += 1 << (20 - n)
			}
			if up != 1<<20 {
				t.Error(x, k, up)
			}
		}
		for k, c := range chosen {
			sum := [2]int{}
			for _, s := range m[10*k : min(10*k+10, x.size)] {
				sum[0] += tables[0][s]
				sum[1] += tables[1][s]
			}
			want := 0
			if sum[1] < sum[0] {
				want = 1
			}
			if c != want {
				t.Error(x, k, c, sum)
			}
		}
	}
}

func TestTablesChosen(t *testing.T) {
	// Even groups are of 0 mostly, odd ones of 1: each has its own; as the second and third one show, it is not just turn about.
	m := slices.Concat(alike(0, 10), alike(1, 10), alike(1, 10), alike(0, 10), alike(0, 10), alike(1, 10), alike(0, 10), []int{1})
	m = append(m, 2, 3)
	tables, chosen, e := choose.Tables(m, 4)
	if e != api.OK || !slices.Equal(tables[0], []int{1, 2, 3, 3}) || !slices.Equal(tables[1], []int{2, 1, 3, 3}) || !slices.Equal(chosen, []int{0, 1, 1, 0, 0, 1, 0, 1}) {
		t.Error(tables, chosen, e)
	}
	tables, chosen, e = choose.Tables([]int{0}, 2)
	if e != api.OK || len(tables) != 2 || !slices.Equal(tables[0], []int{1, 1}) || !slices.Equal(tables[1], []int{1, 1}) || !slices.Equal(chosen, []int{0}) {
		t.Error(tables, chosen, e)
	}
}

func TestTablesWrong(t *testing.T) {
	for i, x := range []struct {
		m []int
		n int
		e api.Errno
	}{
		{nil, 2, api.ErrArg}, {[]int{}, 5, api.ErrArg}, {[]int{0}, 1, api.ErrArg}, {[]int{0}, 0, api.ErrArg}, {[]int{0}, -1, api.ErrArg}, {[]int{0}, 259, api.ErrArg}, {[]int{9}, 1, api.ErrArg}, {[]int{0}, math.MaxInt, api.ErrArg}, {[]int{0}, math.MinInt, api.ErrArg}, {alike(0, 1<<20+1), 2, api.ErrArg}, {alike(7, 1<<20+1), 2, api.ErrArg},
		{[]int{2}, 2, api.ErrNone}, {[]int{-1}, 2, api.ErrNone}, {[]int{0, 1, 2}, 2, api.ErrNone}, {[]int{0, 258}, 258, api.ErrNone}, {[]int{0, math.MaxInt}, 258, api.ErrNone}, {[]int{math.MinInt, 0}, 258, api.ErrNone}, {append(count(30), -1), 30, api.ErrNone},
	} {
		tables, chosen, e := choose.Tables(x.m, x.n)
		if len(tables) != 0 || len(chosen) != 0 || e != x.e {
			t.Error(i, tables, chosen, e)
		}
	}
	if tables, chosen, e := choose.Tables(alike(1, 1<<20), 2); len(tables) != 2 || len(chosen) != 1<<20/10+1 || e != api.OK {
		t.Error(len(tables), len(chosen), e)
	}
}

func TestTablesAreNewMemory(t *testing.T) {
	m := chance(100, 9, 3)
	one, c1, _ := choose.Tables(m, 9)
	want := [][]int{slices.Clone(one[0]), slices.Clone(one[1]), slices.Clone(c1)}
	two, c2, _ := choose.Tables(m, 9)
	for _, l := range [][]int{two[0], two[1], c2} {
		for i := range l[:cap(l)] {
			l[:cap(l)][i] = 99
		}
	}
	if !slices.Equal(one[0], want[0]) || !slices.Equal(one[1], want[1]) || !slices.Equal(c1, want[2]) {
		t.Error("an answer is changed by another one")
	}
	for i := range one[0][:cap(one[0])] {
		one[0][:cap(one[0])][i] = 77
	}
	if !slices.Equal(one[1], want[1]) || !slices.Equal(c1, want[2]) {
		t.Error("a list is changed by another one")
	}
}
