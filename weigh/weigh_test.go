package weigh_test

import (
	"math"
	"slices"
	"testing"

	"pressmark/api"
	"pressmark/code"
	"pressmark/weigh"
)

// grove is a tree by the words: a weight, and of each weight within it the place, and how deep it is.
type grove struct {
	weight int
	deep   map[int]int
}

// slowJoin joins weights by the words: a row, of which the least are taken out.
func slowJoin(weights []int) []int {
	var row []grove
	for i, w := range weights {
		row = append(row, grove{w, map[int]int{i: 0}})
	}
	out := func() grove {
		best := 0
		for i := range row {
			if row[i].weight < row[best].weight {
				best = i
			}
		}
		g := row[best]
		row = slices.Delete(row, best, best+1)
		return g
	}
	for len(row) > 1 {
		a := out()
		b := out()
		g := grove{a.weight + b.weight, map[int]int{}}
		for _, one := range []grove{a, b} {
			for i, d := range one.deep {
				g.deep[i] = d + 1
			}
		}
		row = append(row, g)
	}
	l := make([]int, len(weights))
	for i, d := range row[0].deep {
		l[i] = d
	}
	return l
}

// slow is Lengths by its words.
func slow(weights []int, most int) []int {
	w := slices.Clone(weights)
	for i := range w {
		if w[i] == 0 {
			w[i] = 1
		}
	}
	l := slowJoin(w)
	for slices.Max(l) > most {
		for i := range w {
			w[i] = w[i]/2 + 1
		}
		l = slowJoin(w)
	}
	return l
}

func alike(v, n int) []int { return slices.Repeat([]int{v}, n) }

// growing are weights each of which is the two ahead together: nothing makes deeper trees.
func growing(n int) []int {
	l := []int{1, 1}
	for len(l) < n {
		l = append(l, min(api.MaxWeight, l[len(l)-1]+l[len(l)-2]))
	}
	return l[:n]
}

// chance is n weights that look as if by chance, the same ones each time.
func chance(n, most int, seed uint64) []int {
	l := make([]int, n)
	for i := range l {
		seed = seed*6364136223846793005 + 1442695040888963407
		l[i] = int(seed>>33) % (most + 1)
		if seed>>62 == 0 {
			l[i] = 0
		}
	}
	return l
}

func lists() [][]int {
	l := [][]int{{5, 1, 1, 2}, {0, 0}, {1, 0}, {0, 1, 0}, {1 << 20, 1 << 20}, {1 << 20, 0}, growing(10), growing(20), growing(30), growing(60), growing(258), chance(258, 1<<20, 1), alike(0, 258), alike(1<<20, 258), alike(1<<20, 257)}
	for n := 2; n < 40; n++ {
		l = append(l, chance(n, 5, uint64(n)), chance(n, 1000, uint64(n)), chance(6*n, 3, uint64(n)))
		back := growing(n)
		slices.Reverse(back)
		l = append(l, back)
	}
	return l
}

func TestExamples(t *testing.T) {
	for _, x := range []struct{ weights, want []int }{
		{[]int{5, 1, 1, 2}, []int{1, 3, 3, 2}}, {[]int{0, 0}, []int{1, 1}}, {[]int{1, 1, 1}, []int{2, 2, 1}}, {[]int{1, 1, 2, 2}, []int{2, 2, 2, 2}}, {[]int{2, 2, 1, 1, 4}, []int{2, 2, 3, 3, 2}}, {[]int{0, 1, 1}, []int{2, 2, 1}},
		{[]int{1, 1, 1, 1, 1}, []int{3, 3, 2, 2, 2}}, {[]int{3, 1, 1, 1}, []int{1, 3, 3, 2}}, {[]int{2, 1, 1, 2}, []int{2, 2, 2, 2}},
	} {
		if got, e := weigh.Lengths(x.weights, 20); !slices.Equal(got, x.want) || e != api.OK {
			t.Error(x.weights, got, x.want, e)
		}
	}
}

func TestLengths(t *testing.T) {
	for _, w := range lists() {
		had := slices.Clone(w)
		for most := 9; most <= 20; most++ {
			got, e := weigh.Lengths(w, most)
			if e != api.OK || !slices.Equal(got, slow(w, most)) {
				t.Fatal(w, most, got, e)
			}
			if !slices.Equal(w, had) {
				t.Fatal("changed", w)
			}
			up := 0
			for _, n := range got {
				if n < 1 || n > most {
					t.Fatal(w, most, got)
				}
				up += 1 << (20 - n)
			}
			if up != 1<<20 {
				t.Fatal(w, most, up)
			}
		}
	}
}

func TestGreaterWeightsHaveNoGreaterLengths(t *testing.T) {
	for _, w := range lists() {
		if len(w) > 20 {
			continue
		}
		l, _ := weigh.Lengths(w, 20)
		for i := range w {
			for k := range w {
				// A 0 is taken as 1, so it stands no lower than a 1.
				if max(w[i], 1) > max(w[k], 1) && l[i] > l[k] {
					t.Error(w, l)
				}
			}
		}
	}
}

func TestNoLengthsCostLess(t *testing.T) {
	for seed := range 40 {
		w := chance(5, 9, uint64(seed))
		for i := range w {
			w[i]++
		}
		l, _ := weigh.Lengths(w, 20)
		cost, _ := weigh.Cost(l, w)
		for k := range 6 * 6 * 6 * 6 * 6 {
			other := []int{1 + k%6, 1 + k/6%6, 1 + k/36%6, 1 + k/216%6, 1 + k/1296}
			if code.Check(other) != api.OK {
				continue
			}
			if c, _ := weigh.Cost(other, w); c < cost {
				t.Fatal(w, l, other)
			}
		}
	}
}

func TestAlikeWeights(t *testing.T) {
	for n := 2; n <= 258; n++ {
		for _, v := range []int{0, 1, 7, 1 << 20} {
			l, e := weigh.Lengths(alike(v, n), 9)
			if e != api.OK || slices.Max(l)-slices.Min(l) > 1 {
				t.Error(n, v, l, e)
			}
		}
	}
}

func TestLengthsWrong(t *testing.T) {
	for i, x := range []struct {
		weights []int
		most    int
	}{
		{nil, 20}, {[]int{}, 20}, {[]int{1}, 20}, {alike(1, 259), 20}, {alike(1, 1000), 20}, {[]int{1, -1}, 20}, {[]int{-1, 1}, 20}, {[]int{1, 1<<20 + 1}, 20}, {[]int{1<<20 + 1, 1}, 9}, {[]int{1, 2, math.MaxInt}, 20}, {[]int{1, math.MinInt, 5}, 20},
		{[]int{1, 1}, 8}, {[]int{1, 1}, 21}, {[]int{1, 1}, 0}, {[]int{1, 1}, -1}, {[]int{1, 1}, math.MaxInt}, {[]int{1, 1}, math.MinInt}, {[]int{1, 1}, 1},
	} {
		if l, e := weigh.Lengths(x.weights, x.most); len(l) != 0 || e != api.ErrArg {
			t.Error(i, l, e)
		}
	}
}

func TestCost(t *testing.T) {
	for i, x := range []struct {
		lens, weights []int
		want          int
		e             api.Errno
	}{
		{nil, nil, 0, api.OK}, {[]int{3}, []int{4}, 12, api.OK}, {[]int{1, 3, 3, 2}, []int{5, 1, 1, 2}, 15, api.OK}, {[]int{0, 5}, []int{7, 0}, 0, api.OK}, {[]int{1 << 20}, []int{1 << 20}, 1 << 40, api.OK}, {alike(1<<20, 1000), alike(1<<20, 1000), 1000 << 40, api.OK},
		{[]int{1}, nil, 0, api.ErrArg}, {nil, []int{1}, 0, api.ErrArg}, {[]int{1, 2}, []int{1}, 0, api.ErrArg}, {[]int{1}, []int{1, 2}, 0, api.ErrArg}, {[]int{-1}, []int{1}, 0, api.ErrArg}, {[]int{1}, []int{-1}, 0, api.ErrArg}, {[]int{1<<20 + 1}, []int{1}, 0, api.ErrArg}, {[]int{1}, []int{1<<20 + 1}, 0, api.ErrArg},
		{[]int{1, 1, math.MinInt}, []int{1, 1, 0}, 0, api.ErrArg}, {[]int{1, 1, 0}, []int{1, 1, math.MaxInt}, 0, api.ErrArg},
	} {
		if got, e := weigh.Cost(x.lens, x.weights); got != x.want || e != x.e {
			t.Error(i, got, e)
		}
	}
}

func TestMemory(t *testing.T) {
	one, _ := weigh.Lengths([]int{5, 1, 1, 2}, 20)
	two, _ := weigh.Lengths([]int{5, 1, 1, 2}, 20)
	for i := range two[:cap(two)] {
		two[:cap(two)][i] = 9
	}
	if !slices.Equal(one, []int{1, 3, 3, 2}) {
		t.Error("an answer is changed by another one", one)
	}
}
