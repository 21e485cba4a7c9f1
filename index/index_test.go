package index_test

import (
	"math"
	"slices"
	"strings"
	"testing"

	"pressmark/api"
	"pressmark/index"
	"pressmark/pack"
	"pressmark/stream"
)

// chance is n bytes, of so many kinds, that look as if by chance, the same ones each time.
func chance(n, kinds int, seed uint64) string {
	b := make([]byte, n)
	for i := range b {
		seed = seed*6364136223846793005 + 1442695040888963407
		b[i] = byte(int(seed>>33) % kinds * 255 / max(1, kinds-1))
	}
	return string(b)
}

func archives() []string {
	var l []string
	for i, parts := range [][]string{{""}, {"banana"}, {chance(41, 256, 1)}, {"", "a", ""}, {chance(200, 256, 2), chance(700, 3, 3), "b"}, {strings.Repeat("x", 20000), "y", strings.Repeat("z", 3000)}} {
		a, e := pack.Streams(i+1, parts...)
		if e != api.OK {
			panic("archive")
		}
		l = append(l, a)
	}
	return l
}

// some is a right index of entries of such lengths.
func some(lens ...int) []api.Entry {
	var l []api.Entry
	from := 0
	for i, n := range lens {
		l = append(l, api.Entry{At: 32 + 100*i, Room: 40 + i%9*40, From: from, Len: n, Sum: uint32(i)})
		from += n
	}
	return l
}

func TestScan(t *testing.T) {
	for i, a := range archives() {
		blocks, _ := stream.Blocks(a)
		rooms, _ := stream.Rooms(a)
		text, _ := stream.Read(a)
		var want []api.Entry
		from := 0
		for k, b := range blocks {
			want = append(want, api.Entry{At: b.At, Room: rooms[k], From: from, Len: len(b.Text), Sum: b.Sum})
			from += len(b.Text)
		}
		l, e := index.Scan(a)
		if !slices.Equal(l, want) || e != api.OK {
			t.Fatal(i, l, e)
		}
		if !index.Right(l) || index.Total(l) != len(text) {
			t.Fatal(i, l)
		}
		for off := range len(text) {
			k := index.Find(l, off)
			if k < 0 || blocks[k].Text[off-l[k].From] != text[off] {
				t.Fatal(i, off, k)
			}
		}
	}
}

func TestScanWrong(t *testing.T) {
	a := archives()[4]
	turned := []byte(a)
	turned[11] ^= 1
	for _, x := range []string{"", "a", "PMk1", a[:len(a)-1], a[:40], a + "\x00", a + "PMk0", string(turned)} {
		_, want := stream.Blocks(x)
		if l, e := index.Scan(x); len(l) != 0 || e != want || e == api.OK {
			t.Errorf("%q: %v %d, want %d", x, l, e, want)
		}
	}
}

func TestRight(t *testing.T) {
	for i, x := range []struct {
		change func(l []api.Entry) []api.Entry
		right  bool
	}{
		{func(l []api.Entry) []api.Entry { return l }, true},
		{func(l []api.Entry) []api.Entry { return nil }, true},
		{func(l []api.Entry) []api.Entry { return l[:1] }, true},
		{func(l []api.Entry) []api.Entry { return l[1:] }, false},
		{func(l []api.Entry) []api.Entry { l[0].From = 1; return l[:1] }, false},
		{func(l []api.Entry) []api.Entry { l[0].From = -1; return l[:1] }, false},
		{func(l []api.Entry) []api.Entry { l[1].From++; return l }, false},
		{func(l []api.Entry) []api.Entry { l[2].From--; return l }, false},
		{func(l []api.Entry) []api.Entry { l[0].Len = 0; return l[:1] }, false},
		{func(l []api.Entry) []api.Entry { l[0].Len = -5; return l[:1] }, false},
		{func(l []api.Entry) []api.Entry { l[2].Len = 0; return l }, false},
		{func(l []api.Entry) []api.Entry { l[2].Len = 1; return l }, true},
		{func(l []api.Entry) []api.Entry { l[2].Len = 18720; return l }, true},
		{func(l []api.Entry) []api.Entry { l[2].Len = 18721; return l }, false},
		{func(l []api.Entry) []api.Entry { l[2].Len = math.MaxInt; return l }, false},
		{func(l []api.Entry) []api.Entry { l[2].Len = math.MinInt; return l }, false},
		{func(l []api.Entry) []api.Entry { l[0].Len, l[1].From = -5, -5; l[1].Len = 55; return l }, false},
		{func(l []api.Entry) []api.Entry { l[1].Room = 0; return l }, false},
		{func(l []api.Entry) []api.Entry { l[1].Room = -40; return l }, false},
		{func(l []api.Entry) []api.Entry { l[1].Room = 39; return l }, false},
		{func(l []api.Entry) []api.Entry { l[1].Room = 41; return l }, false},
		{func(l []api.Entry) []api.Entry { l[1].Room = 40; return l }, true},
		{func(l []api.Entry) []api.Entry { l[1].Room = 360; return l }, true},
		{func(l []api.Entry) []api.Entry { l[1].Room = 400; return l }, false},
		{func(l []api.Entry) []api.Entry { l[2].Room = 100; return l }, false},
		{func(l []api.Entry) []api.Entry { l[0].At = 31; return l }, false},
		{func(l []api.Entry) []api.Entry { l[0].At = 0; return l[:1] }, false},
		{func(l []api.Entry) []api.Entry { l[0].At = -32; return l }, false},
		{func(l []api.Entry) []api.Entry { l[0].At = math.MinInt; return l }, false},
		{func(l []api.Entry) []api.Entry { l[1].At = l[0].At; return l }, false},
		{func(l []api.Entry) []api.Entry { l[1].At = l[0].At + 1; return l }, true},
		{func(l []api.Entry) []api.Entry { l[1].At = l[2].At; return l }, false},
		{func(l []api.Entry) []api.Entry { l[2].At = math.MaxInt; return l }, true},
		{func(l []api.Entry) []api.Entry { l[1].At = math.MaxInt; return l }, false},
		{func(l []api.Entry) []api.Entry { l[1].At, l[2].At = math.MaxInt, math.MinInt; return l }, false},
		{func(l []api.Entry) []api.Entry { l[1].At, l[2].At = math.MaxInt, math.MaxInt; return l }, false},
		{func(l []api.Entry) []api.Entry { l[1].Sum = math.MaxUint32; return l }, true},
	} {
		l := x.change(some(50, 7, 9))
		had := slices.Clone(l)
		if index.Right(l) != x.right {
			t.Error(i, l)
		}
		total, first := 0, -1
		if x.right && len(l) > 0 {
			total, first = l[len(l)-1].From+l[len(l)-1].Len, 0
		}
		if got := index.Total(l); got != total {
			t.Error(i, got, total)
		}
		if got := index.Find(l, 0); got != first {
			t.Error(i, got, first)
		}
		if got, _ := index.Cover(l, 0, 1); got != first {
			t.Error(i, got, first)
		}
		if !slices.Equal(l, had) {
			t.Error("changed", i)
		}
	}
}

// slow is Cover by its words, byte by byte.
func slow(l []api.Entry, off, n int) (first, last int) {
	first, last = -1, -1
	for k, x := range l {
		for b := off; b < off+n; b++ {
			if x.From <= b && b < x.From+x.Len {
				if first < 0 {
					first = k
				}
				last = k
			}
		}
	}
	return first, last
}

func TestFindAndCover(t *testing.T) {
	for _, l := range [][]api.Entry{nil, some(1), some(3, 1, 1, 4), some(40, 1), some(1, 1, 1, 1, 1, 1, 1, 1, 1), some(5, 18, 2)} {
		for off := -4; off < index.Total(l)+4; off++ {
			want, _ := slow(l, off, 1)
			if got := index.Find(l, off); got != want {
				t.Fatal(l, off, got, want)
			}
			for n := -3; n < 50; n++ {
				first, last := index.Cover(l, off, n)
				if f, z := slow(l, off, n); first != f || last != z {
					t.Fatal(l, off, n, first, last, f, z)
				}
			}
		}
	}
}

func TestFarPlaces(t *testing.T) {
	l := some(5, 18, 2)
	for i, x := range []struct{ off, n, first, last int }{
		{math.MaxInt, math.MaxInt, -1, -1}, {math.MaxInt, 1, -1, -1}, {math.MinInt, math.MaxInt, -1, -1}, {math.MinInt, math.MinInt, -1, -1}, {math.MinInt, 1, -1, -1}, {0, math.MaxInt, 0, 2}, {5, math.MaxInt, 1, 2}, {24, math.MaxInt, 2, 2}, {25, math.MaxInt, -1, -1}, {-1, math.MaxInt, 0, 2}, {-math.MaxInt + 6, math.MaxInt, 0, 1}, {-math.MaxInt + 5, math.MaxInt, 0, 0}, {-math.MaxInt + 1, math.MaxInt, 0, 0}, {-math.MaxInt, math.MaxInt, -1, -1},
		{0, math.MinInt, -1, -1}, {4, 0, -1, -1}, {4, -1, -1, -1}, {1, math.MaxInt - 1, 0, 2}, {math.MaxInt - 1, 2, -1, -1}, {-1, 2, 0, 0}, {-5, 5, -1, -1}, {-5, 6, 0, 0},
	} {
		if first, last := index.Cover(l, x.off, x.n); first != x.first || last != x.last {
			t.Error(i, first, last)
		}
	}
	for _, off := range []int{math.MaxInt, math.MinInt, -1, 25} {
		if k := index.Find(l, off); k != -1 {
			t.Error(off, k)
		}
	}
}

func TestExample(t *testing.T) {
	a, _ := pack.Pack(chance(41, 256, 1), 1)
	l, e := index.Scan(a)
	if len(l) != 2 || l[0].Len != 40 || l[1].Len != 1 || e != api.OK {
		t.Fatal(l, e)
	}
	if k := index.Find(l, 40); k != 1 {
		t.Error(k)
	}
	if first, last := index.Cover(l, 39, 2); first != 0 || last != 1 {
		t.Error(first, last)
	}
}

func TestMemory(t *testing.T) {
	a := archives()[4]
	one, _ := index.Scan(a)
	want := slices.Clone(one)
	two, _ := index.Scan(a)
	for i := range two[:cap(two)] {
		two[:cap(two)][i] = api.Entry{}
	}
	if !slices.Equal(one, want) {
		t.Error("an answer is changed by another one")
	}
}
