package cache_test

import (
	"math"
	"slices"
	"strconv"
	"testing"

	"pressmark/api"
	"pressmark/cache"
)

func same(a, b api.Shelf) bool {
	return a.Room == b.Room && a.Clock == b.Clock && slices.Equal(a.Held, b.Held)
}

func none(c api.Shelf) bool { return same(c, api.Shelf{}) }

func clone(c api.Shelf) api.Shelf {
	c.Held = slices.Clone(c.Held)
	return c
}

func shelf(room, clock int, held ...api.Held) api.Shelf {
	return api.Shelf{Room: room, Clock: clock, Held: held}
}

func held(block, stamp int, text string) api.Held {
	return api.Held{Block: block, Stamp: stamp, Text: text}
}

var right = []api.Shelf{
	shelf(1, 0), shelf(64, 0), shelf(64, 1<<40), shelf(1, 1, held(0, 1, "")), shelf(2, 9, held(0, 9, "a"), held(1, 1, "a")), shelf(3, 1<<40, held(5, 1<<40, "x"), held(math.MaxInt, 1<<40-1, "")), shelf(2, 7, held(3, 1, "t"), held(4, 2, "u")),
}

var wrong = []api.Shelf{
	{}, shelf(0, 0), shelf(-1, 0), shelf(65, 0), shelf(math.MaxInt, 0), shelf(math.MinInt, 5), shelf(1, -1), shelf(1, 1<<40+1), shelf(1, math.MaxInt), shelf(1, math.MinInt),
	shelf(1, 5, held(0, 1, ""), held(1, 2, "")), shelf(2, 5, held(-1, 1, "")), shelf(2, 5, held(math.MinInt, 1, "")), shelf(2, 5, held(1, 1, ""), held(1, 2, "")), shelf(2, 5, held(2, 1, ""), held(1, 2, "")), shelf(3, 5, held(0, 1, ""), held(2, 2, ""), held(1, 3, "")),
	shelf(2, 5, held(1, 0, "")), shelf(2, 5, held(1, -1, "")), shelf(2, 5, held(1, 6, "")), shelf(2, 5, held(1, 3, ""), held(2, 3, "")), shelf(3, 5, held(1, 3, ""), held(2, 4, ""), held(7, 3, "")), shelf(2, 0, held(1, 1, "")), shelf(2, 5, held(1, 1, ""), held(2, math.MaxInt, "")),
}

func TestNew(t *testing.T) {
	for room := 1; room <= 64; room++ {
		if c, e := cache.New(room); !same(c, api.Shelf{Room: room}) || e != api.OK || !cache.Right(c) {
			t.Error(room, c, e)
		}
	}
	for _, room := range []int{0, -1, 65, 100, math.MaxInt, math.MinInt} {
		if c, e := cache.New(room); !none(c) || e != api.ErrArg {
			t.Error(room, c, e)
		}
	}
}

func TestRight(t *testing.T) {
	for i, c := range right {
		if !cache.Right(c) {
			t.Error(i, c)
		}
	}
	full := shelf(64, 64)
	for k := range 64 {
		full.Held = append(full.Held, held(2*k, 64-k, "z"))
	}
	if !cache.Right(full) {
		t.Error("full")
	}
	full.Room = 63
	if cache.Right(full) {
		t.Error("more than room")
	}
	for i, c := range wrong {
		if cache.Right(c) {
			t.Error(i, c)
		}
		if l := cache.Order(c); len(l) != 0 {
			t.Error(i, l)
		}
		for _, block := range []int{0, 1, -1, 5} {
			if s, next, e := cache.Take(c, block); s != "" || !none(next) || e != api.ErrArg {
				t.Error(i, s, next, e)
			}
			if gone, next, e := cache.Keep(c, block, "text"); gone != 0 || !none(next) || e != api.ErrArg {
				t.Error(i, gone, next, e)
			}
		}
	}
}

func TestOrder(t *testing.T) {
	for _, x := range []struct {
		c    api.Shelf
		want []int
	}{{shelf(5, 9), nil}, {shelf(5, 9, held(3, 2, "")), []int{3}}, {shelf(5, 9, held(0, 2, ""), held(1, 9, ""), held(5, 1, ""), held(7, 4, "")), []int{1, 7, 0, 5}}} {
		if got := cache.Order(x.c); !slices.Equal(got, x.want) {
			t.Error(x.c, got)
		}
	}
}

func TestTake(t *testing.T) {
	c := shelf(3, 7, held(2, 5, "two"), held(4, 3, "four"), held(9, 6, ""))
	for _, x := range []struct {
		block int
		text  string
		want  api.Shelf
	}{
		{2, "two", shelf(3, 8, held(2, 8, "two"), held(4, 3, "four"), held(9, 6, ""))}, {4, "four", shelf(3, 8, held(2, 5, "two"), held(4, 8, "four"), held(9, 6, ""))}, {9, "", shelf(3, 8, held(2, 5, "two"), held(4, 3, "four"), held(9, 8, ""))},
	} {
		had := clone(c)
		s, next, e := cache.Take(c, x.block)
		if s != x.text || !same(next, x.want) || e != api.OK {
			t.Error(x.block, s, next, e)
		}
		if !same(c, had) {
			t.Error("changed", c)
		}
	}
	for _, block := range []int{0, 3, 5, 10, -1, math.MaxInt, math.MinInt} {
		if s, next, e := cache.Take(c, block); s != "" || !none(next) || e != api.ErrNone {
			t.Error(block, s, next, e)
		}
	}
	late := shelf(3, 1<<40, held(2, 5, "two"))
	if s, next, e := cache.Take(late, 2); s != "" || !none(next) || e != api.ErrLong {
		t.Error(s, next, e)
	}
	if s, next, e := cache.Take(late, 3); s != "" || !none(next) || e != api.ErrNone {
		t.Error(s, next, e)
	}
	late.Clock--
	if s, next, e := cache.Take(late, 2); s != "two" || !same(next, shelf(3, 1<<40, held(2, 1<<40, "two"))) || e != api.OK {
		t.Error(s, next, e)
	}
}

func TestKeep(t *testing.T) {
	two := shelf(2, 7, held(2, 5, "two"), held(4, 3, "four"))
	three := shelf(3, 7, held(2, 5, "two"), held(4, 3, "four"))
	for i, x := range []struct {
		c     api.Shelf
		block int
		text  string
		gone  int
		want  api.Shelf
	}{
		{shelf(1, 0), 0, "a", -1, shelf(1, 1, held(0, 1, "a"))}, {shelf(1, 1, held(0, 1, "a")), 5, "b", 0, shelf(1, 2, held(5, 2, "b"))}, {shelf(1, 1, held(0, 1, "a")), 0, "b", -1, shelf(1, 2, held(0, 2, "b"))},
		{two, 2, "other", -1, shelf(2, 8, held(2, 8, "other"), held(4, 3, "four"))}, {two, 4, "", -1, shelf(2, 8, held(2, 5, "two"), held(4, 8, ""))}, {two, 3, "three", 4, shelf(2, 8, held(2, 5, "two"), held(3, 8, "three"))}, {two, 0, "", 4, shelf(2, 8, held(0, 8, ""), held(2, 5, "two"))}, {two, math.MaxInt, "m", 4, shelf(2, 8, held(2, 5, "two"), held(math.MaxInt, 8, "m"))},
		{three, 3, "three", -1, shelf(3, 8, held(2, 5, "two"), held(3, 8, "three"), held(4, 3, "four"))}, {three, 9, "n", -1, shelf(3, 8, held(2, 5, "two"), held(4, 3, "four"), held(9, 8, "n"))}, {three, 0, "z", -1, shelf(3, 8, held(0, 8, "z"), held(2, 5, "two"), held(4, 3, "four"))}, {three, 4, "again", -1, shelf(3, 8, held(2, 5, "two"), held(4, 8, "again"))},
		{shelf(2, 1<<40-1), 1, "l", -1, shelf(2, 1<<40, held(1, 1<<40, "l"))},
	} {
		had := clone(x.c)
		gone, next, e := cache.Keep(x.c, x.block, x.text)
		if gone != x.gone || !same(next, x.want) || e != api.OK || !cache.Right(next) {
			t.Error(i, gone, next, e)
		}
		if !same(x.c, had) {
			t.Error("changed", i, x.c)
		}
	}
	for i, x := range []struct {
		c     api.Shelf
		block int
		e     api.Errno
	}{{two, -1, api.ErrArg}, {two, math.MinInt, api.ErrArg}, {shelf(2, 1<<40), 1, api.ErrLong}, {shelf(2, 1<<40), -1, api.ErrArg}, {shelf(1, 1<<40, held(1, 1, "")), 1, api.ErrLong}} {
		if gone, next, e := cache.Keep(x.c, x.block, "t"); gone != 0 || !none(next) || e != x.e {
			t.Error(i, gone, next, e)
		}
	}
}

func TestExample(t *testing.T) {
	c, _ := cache.New(2)
	_, c, _ = cache.Keep(c, 5, "five")
	_, c, _ = cache.Keep(c, 3, "three")
	_, c, _ = cache.Take(c, 5)
	gone, c, e := cache.Keep(c, 9, "nine")
	if gone != 3 || !slices.Equal(cache.Order(c), []int{9, 5}) || e != api.OK {
		t.Error(gone, c, e)
	}
}

func TestWhatIsHeldWasUsedOfLate(t *testing.T) {
	for room := 1; room <= 64; room += 7 {
		c, _ := cache.New(room)
		var used []int // the last one first, each once
		last := map[int]string{}
		seed := uint64(room)
		for step := range 600 {
			seed = seed*6364136223846793005 + 1442695040888963407
			block := int(seed>>33) % (2 * room)
			want := slices.Clone(used)
			at := slices.Index(want, block)
			isHeld := at >= 0 && at < room
			if at >= 0 {
				want = slices.Delete(want, at, at+1)
			}
			want = append([]int{block}, want...)
			if seed>>63 == 0 {
				s, next, e := cache.Take(c, block)
				if isHeld != (e == api.OK) || isHeld && s != last[block] || !isHeld && e != api.ErrNone {
					t.Fatal(room, step, s, e)
				}
				if !isHeld {
					continue
				}
				c = next
			} else {
				text := strconv.Itoa(step)
				gone, next, e := cache.Keep(c, block, text)
				wantGone := -1
				if !isHeld && len(used) >= room {
					wantGone = used[room-1]
				}
				if gone != wantGone || e != api.OK {
					t.Fatal(room, step, gone, wantGone, e)
				}
				last[block] = text
				c = next
			}
			used = want
			if !cache.Right(c) || !slices.Equal(cache.Order(c), used[:min(room, len(used))]) {
				t.Fatal(room, step, c, used)
			}
		}
	}
}

func TestMemory(t *testing.T) {
	backing := []api.Held{held(2, 5, "two"), held(4, 3, "four"), held(77, 77, "behind")}
	c := shelf(4, 7, backing[:2]...)
	c.Held = backing[:2]
	_, one, _ := cache.Keep(c, 6, "six")
	_, two, _ := cache.Take(c, 2)
	_, three, _ := cache.Keep(c, 6, "six")
	want1, want2 := clone(one), clone(two)
	for _, l := range [][]api.Held{three.Held} {
		for i := range l[:cap(l)] {
			l[:cap(l)][i] = held(0, 0, "")
		}
	}
	o1, o2 := cache.Order(c), cache.Order(c)
	for i := range o2[:cap(o2)] {
		o2[:cap(o2)][i] = -1
	}
	if !same(one, want1) || !same(two, want2) || !slices.Equal(o1, []int{2, 4}) {
		t.Error("an answer is changed by another one", one, two, o1)
	}
	if !slices.Equal(backing, []api.Held{held(2, 5, "two"), held(4, 3, "four"), held(77, 77, "behind")}) {
		t.Error("changed", backing)
	}
}
