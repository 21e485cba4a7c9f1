package seek_test

import (
	"math"
	"slices"
	"strings"
	"testing"

	"pressmark/api"
	"pressmark/block"
	"pressmark/cache"
	"pressmark/crc"
	"pressmark/index"
	"pressmark/pack"
	"pressmark/seek"
	"pressmark/sidecar"
	"pressmark/stream"
)

func same(a, b api.Desk) bool {
	return a.Data == b.Data && slices.Equal(a.Index, b.Index) && slices.Equal(a.Readers, b.Readers) && a.Decoded == b.Decoded &&
		a.Shelf.Room == b.Shelf.Room && a.Shelf.Clock == b.Shelf.Clock && slices.Equal(a.Shelf.Held, b.Shelf.Held)
}

func none(d api.Desk) bool { return same(d, api.Desk{}) }

func clone(d api.Desk) api.Desk {
	d.Index = slices.Clone(d.Index)
	d.Shelf.Held = slices.Clone(d.Shelf.Held)
	d.Readers = slices.Clone(d.Readers)
	return d
}

// chance is n bytes, of so many kinds, that look as if by chance, the same ones each time.
func chance(n, kinds int, seed uint64) string {
	b := make([]byte, n)
	for i := range b {
		seed = seed*6364136223846793005 + 1442695040888963407
		b[i] = byte(int(seed>>33) % kinds * 255 / max(1, kinds-1))
	}
	return string(b)
}

func streams(level int, parts ...string) string {
	a, e := pack.Streams(level, parts...)
	if e != api.OK {
		panic("streams")
	}
	return a
}

func opened(t *testing.T, a string, room, readers int) api.Desk {
	t.Helper()
	d, e := seek.Open(a, room, readers)
	if e != api.OK || !seek.Right(d) {
		t.Fatal(d, e)
	}
	return d
}

func archives() []string {
	return []string{streams(1, ""), streams(1, "banana"), streams(1, chance(41, 256, 1)), streams(1, chance(100, 256, 2), "", "b", chance(900, 2, 3)), streams(8, strings.Repeat("x", 40000), chance(500, 256, 4), "yy")}
}

// Modelled by the words: what a call of Step answers.
func slowStep(d api.Desk, r int) (bool, api.Reply, api.Desk) {
	d = clone(d)
	me := &d.Readers[r]
	end := func(text string, e api.Errno) (bool, api.Reply, api.Desk) {
		*me = api.Reader{}
		return true, api.Reply{Text: text, Code: e}, d
	}
	gets := func(text string) (bool, api.Reply, api.Desk) {
		x := d.Index[me.Block]
		for i := range len(text) {
			if p := x.From + i; p >= me.Off && p < me.Off+me.N {
				me.Got += text[i : i+1]
			}
		}
		me.Text = ""
		me.Block++
		me.State = api.Looking
		if me.Block-1 != me.Last {
			return false, api.Reply{}, d
		}
		e := api.OK
		if me.Off+me.N > index.Total(d.Index) {
			e = api.ErrEnd
		}
		return end(me.Got, e)
	}
	switch me.State {
	case api.Looking:
		text, shelf, e := cache.Take(d.Shelf, me.Block)
		if e != api.OK {
			me.State = api.Reading
			return false, api.Reply{}, d
		}
		d.Shelf = shelf
		return gets(text)
	case api.Reading:
		x := d.Index[me.Block]
		b, e := block.Decode(d.Data, x.At, x.Room)
		if d.Decoded < 1<<40 {
			d.Decoded++
		}
		if e == api.OK && (len(b.Text) != x.Len || b.Sum != x.Sum) {
			e = api.ErrForm
		}
		if e != api.OK {
			return end("", e)
		}
		me.State, me.Text = api.Keeping, b.Text
	case api.Keeping:
		if _, shelf, e := cache.Keep(d.Shelf, me.Block, me.Text); e == api.OK {
			d.Shelf = shelf
		}
		return gets(me.Text)
	}
	return false, api.Reply{}, d
}

// goOn steps, and holds what is answered against the model.
func goOn(t *testing.T, d api.Desk, r int) (bool, api.Reply, api.Desk) {
	t.Helper()
	had := clone(d)
	ended, reply, next, e := seek.Step(d, r)
	wantEnded, wantReply, want := slowStep(d, r)
	if ended != wantEnded || reply != wantReply || !same(next, want) || e != api.OK {
		t.Fatalf("step %d of %+v: %v %v %+v %d, want %v %v %+v", r, had.Readers, ended, reply, next.Readers, e, wantEnded, wantReply, want.Readers)
	}
	if !same(d, had) {
		t.Fatal("changed")
	}
	if !seek.Right(next) {
		t.Fatalf("not right: %+v", next.Readers)
	}
	return ended, reply, next
}

func TestOpen(t *testing.T) {
	for i, a := range archives() {
		l, _ := index.Scan(a)
		s, _ := sidecar.Save(a, l)
		for _, room := range []int{1, 2, 64} {
			for _, readers := range []int{1, 3, 8} {
				want := api.Desk{Data: a, Index: l, Shelf: api.Shelf{Room: room}, Readers: make([]api.Reader, readers)}
				if d, e := seek.Open(a, room, readers); !same(d, want) || e != api.OK || !seek.Right(d) {
					t.Error(i, room, readers, d, e)
				}
				if d, e := seek.OpenBy(a, s, room, readers); !same(d, want) || e != api.OK {
					t.Error(i, room, readers, d, e)
				}
			}
		}
	}
}

func TestOpenWrong(t *testing.T) {
	a := archives()[3]
	l, _ := index.Scan(a)
	s, _ := sidecar.Save(a, l)
	other, _ := sidecar.Save(a, l[:1])
	turned := []byte(a)
	turned[12] ^= 1
	for i, x := range []struct {
		a, s          string
		room, readers int
		e, by         api.Errno
	}{
		{a, s, 0, 1, api.ErrArg, api.ErrArg}, {a, s, 65, 1, api.ErrArg, api.ErrArg}, {a, s, -1, 1, api.ErrArg, api.ErrArg}, {a, s, 1, 0, api.ErrArg, api.ErrArg}, {a, s, 1, 9, api.ErrArg, api.ErrArg}, {a, s, 1, -1, api.ErrArg, api.ErrArg}, {a, s, math.MaxInt, math.MaxInt, api.ErrArg, api.ErrArg}, {a, s, 1, math.MinInt, api.ErrArg, api.ErrArg}, {"", "", 0, 1, api.ErrArg, api.ErrArg}, {"x", "x", 1, 9, api.ErrArg, api.ErrArg},
		{"", s, 1, 1, api.ErrForm, api.ErrSum}, {a[:len(a)-1], s, 1, 1, api.ErrShort, api.ErrSum}, {a + "\x00", s, 1, 1, api.ErrShort, api.ErrSum}, {string(turned), s, 1, 1, api.ErrSum, api.ErrSum}, {a, "", 1, 1, api.OK, api.ErrShort}, {a, s + "x", 1, 1, api.OK, api.ErrForm}, {a, other, 1, 1, api.OK, api.ErrForm},
	} {
		if d, e := seek.Open(x.a, x.room, x.readers); e != x.e || e != api.OK && !none(d) {
			t.Error(i, d, e)
		}
		if d, e := seek.OpenBy(x.a, x.s, x.room, x.readers); e != x.by || !none(d) {
			t.Error(i, d, e)
		}
	}
}

func TestReadAtEverywhere(t *testing.T) {
	for i, a := range archives() {
		text, _ := stream.Read(a)
		for _, room := range []int{1, 3} {
			d := opened(t, a, room, 2)
			step := max(1, len(text)/70)
			for off := 0; off < len(text)+3; off += step {
				for _, n := range []int{0, 1, 2, 39, 40, 41, 500, len(text), 1<<20 - 1} {
					had := clone(d)
					reply, next, e := seek.ReadAt(d, off%2, off, n)
					want := api.Reply{Text: text[min(off, len(text)):min(off+n, len(text))]}
					if off+n > len(text) {
						want.Code = api.ErrEnd
					}
					if reply != want || e != api.OK || !seek.Right(next) || len(next.Shelf.Held) > room {
						t.Fatal(i, off, n, len(reply.Text), reply.Code, e)
					}
					if !same(d, had) {
						t.Fatal("changed")
					}
					d = next
				}
			}
		}
	}
}

func TestReadAtIsAskAndSteps(t *testing.T) {
	a := archives()[3]
	d := opened(t, a, 2, 3)
	_, _, d, _ = seek.Ask(d, 1, 50, 300)
	for i := range 60 {
		off, n := i*37%1010, i*i%400
		reply, next, e := seek.ReadAt(d, i%2*2, off, n)
		ended, want, slow, e2 := seek.Ask(d, i%2*2, off, n)
		for !ended && e2 == api.OK {
			ended, want, slow = slowStep(slow, i%2*2)
		}
		if reply != want || !same(next, slow) || e != api.OK || e2 != api.OK {
			t.Fatal(i, reply, want, e, e2)
		}
		d = next
	}
}

func TestExample(t *testing.T) {
	d := opened(t, streams(1, "banana"), 1, 1)
	for i, x := range []struct {
		off, n int
		want   api.Reply
	}{
		{4, 2, api.Reply{Text: "na"}}, {4, 3, api.Reply{Text: "na", Code: api.ErrEnd}}, {6, 0, api.Reply{}}, {7, 0, api.Reply{Code: api.ErrEnd}}, {6, 1, api.Reply{Code: api.ErrEnd}}, {0, 0, api.Reply{}}, {0, 6, api.Reply{Text: "banana"}}, {0, 7, api.Reply{Text: "banana", Code: api.ErrEnd}}, {math.MaxInt, 1<<20 - 1, api.Reply{Code: api.ErrEnd}}, {math.MaxInt, 0, api.Reply{Code: api.ErrEnd}},
	} {
		reply, next, e := seek.ReadAt(d, 0, x.off, x.n)
		if reply != x.want || e != api.OK {
			t.Error(i, reply, e)
		}
		d = next
	}
	if d.Decoded != 1 {
		t.Error(d.Decoded)
	}
	empty := opened(t, streams(1, ""), 1, 1)
	if reply, next, e := seek.ReadAt(empty, 0, 0, 0); reply != (api.Reply{}) || !same(next, empty) || e != api.OK {
		t.Error(reply, e)
	}
	if reply, next, e := seek.ReadAt(empty, 0, 0, 1); reply != (api.Reply{Code: api.ErrEnd}) || !same(next, empty) || e != api.OK {
		t.Error(reply, e)
	}
}

func TestAsk(t *testing.T) {
	a := archives()[3]
	d := opened(t, a, 2, 3)
	total := index.Total(d.Index)
	for i, x := range []struct {
		r, off, n int
		ended     bool
		code      api.Errno
		e         api.Errno
	}{
		{0, 0, 0, true, api.OK, api.OK}, {1, total, 0, true, api.OK, api.OK}, {2, total + 1, 0, true, api.ErrEnd, api.OK}, {0, total, 1, true, api.ErrEnd, api.OK}, {0, math.MaxInt, 1<<20 - 1, true, api.ErrEnd, api.OK}, {0, 5, 0, true, api.OK, api.OK},
		{0, 0, 1, false, 0, api.OK}, {2, 39, 2, false, 0, api.OK}, {1, 0, 1<<20 - 1, false, 0, api.OK}, {1, total - 1, 1, false, 0, api.OK}, {1, total - 1, 500, false, 0, api.OK},
		{0, -1, 0, false, 0, api.ErrArg}, {0, 0, -1, false, 0, api.ErrArg}, {0, -1, 5, false, 0, api.ErrArg}, {0, 0, 1 << 20, false, 0, api.ErrArg}, {0, math.MinInt, math.MinInt, false, 0, api.ErrArg}, {0, total + 5, 1 << 20, false, 0, api.ErrArg}, {0, 0, math.MaxInt, false, 0, api.ErrArg},
		{3, 0, 1, false, 0, api.ErrNone}, {-1, 0, 1, false, 0, api.ErrNone}, {3, -1, 1, false, 0, api.ErrNone}, {math.MaxInt, 0, 0, false, 0, api.ErrNone}, {math.MinInt, 0, -1, false, 0, api.ErrNone},
	} {
		had := clone(d)
		ended, reply, next, e := seek.Ask(d, x.r, x.off, x.n)
		want := clone(d)
		if x.e != api.OK {
			want = api.Desk{}
		} else if !x.ended {
			first, last := index.Cover(d.Index, x.off, x.n)
			want.Readers[x.r] = api.Reader{State: api.Looking, Off: x.off, N: x.n, Block: first, Last: last}
		}
		if ended != x.ended || reply != (api.Reply{Code: x.code}) || !same(next, want) || e != x.e {
			t.Error(i, ended, reply, e)
		}
		if !same(d, had) {
			t.Error("changed", i)
		}
		if e != api.OK {
			if reply, next, e := seek.ReadAt(d, x.r, x.off, x.n); reply != (api.Reply{}) || !none(next) || e != x.e {
				t.Error(i, reply, e)
			}
		}
	}
}

func TestBusy(t *testing.T) {
	_, _, d, _ := seek.Ask(opened(t, archives()[3], 2, 2), 1, 10, 100)
	for range 7 {
		for _, x := range [][2]int{{0, 1}, {0, 0}, {-1, 0}, {0, -1}, {0, 1 << 20}} {
			if ended, reply, next, e := seek.Ask(d, 1, x[0], x[1]); ended || reply != (api.Reply{}) || !none(next) || e != api.ErrBusy {
				t.Fatal(ended, reply, e)
			}
			if reply, next, e := seek.ReadAt(d, 1, x[0], x[1]); reply != (api.Reply{}) || !none(next) || e != api.ErrBusy {
				t.Fatal(reply, e)
			}
		}
		var ended bool
		if ended, _, d = goOn(t, d, 1); ended {
			t.Fatal("too early")
		}
	}
}

func TestStepsOfOneReader(t *testing.T) {
	d := opened(t, archives()[2], 1, 1)
	var states []int
	_, _, d, _ = seek.Ask(d, 0, 39, 5)
	for ended := false; !ended; {
		states = append(states, d.Readers[0].State)
		var reply api.Reply
		ended, reply, d = goOn(t, d, 0)
		if ended && (reply.Text != chance(41, 256, 1)[39:] || reply.Code != api.ErrEnd) {
			t.Error(reply)
		}
	}
	if !slices.Equal(states, []int{1, 2, 3, 1, 2, 3}) || d.Decoded != 2 || !slices.Equal(cache.Order(d.Shelf), []int{1}) {
		t.Error(states, d.Decoded, cache.Order(d.Shelf))
	}
	if ended, reply, next, e := seek.Step(d, 0); ended || reply != (api.Reply{}) || !same(next, d) || e != api.OK {
		t.Error(ended, reply, e)
	}
	for _, r := range []int{1, -1, 8, math.MaxInt, math.MinInt} {
		if ended, reply, next, e := seek.Step(d, r); ended || reply != (api.Reply{}) || !none(next) || e != api.ErrNone {
			t.Error(r, ended, reply, e)
		}
	}
}

func TestTwoReadersOfOneBlock(t *testing.T) {
	d := opened(t, streams(1, "banana"), 3, 2)
	_, _, d, _ = seek.Ask(d, 0, 0, 2)
	_, _, d, _ = seek.Ask(d, 1, 2, 4)
	for _, r := range []int{0, 1, 0, 1} {
		_, _, d = goOn(t, d, r)
	}
	ended, reply, d := goOn(t, d, 0)
	if !ended || reply != (api.Reply{Text: "ba"}) || d.Shelf.Clock != 1 {
		t.Error(ended, reply, d.Shelf)
	}
	ended, reply, d = goOn(t, d, 1)
	if !ended || reply != (api.Reply{Text: "nana"}) || d.Decoded != 2 || d.Shelf.Clock != 2 || !slices.Equal(d.Shelf.Held, []api.Held{{Block: 0, Stamp: 2, Text: "banana"}}) {
		t.Error(ended, reply, d.Shelf)
	}
}

func TestAnyOrderOfSteps(t *testing.T) {
	for i, a := range archives() {
		text, _ := stream.Read(a)
		for room := 1; room <= 4; room++ {
			d := opened(t, a, room, 4)
			type read struct{ off, n, decoded int }
			var reads [4]read
			seed := uint64(room*10 + i)
			for range 500 {
				seed = seed*6364136223846793005 + 1442695040888963407
				r := int(seed>>33) % 4
				if d.Readers[r].State == api.Free {
					off, n := int(seed>>40)%(len(text)+2), int(seed>>50)%130
					ended, reply, next, e := seek.Ask(d, r, off, n)
					if e != api.OK || !seek.Right(next) || ended && reply.Text != "" {
						t.Fatal(i, room, e)
					}
					d, reads[r] = next, read{off, n, 0}
					continue
				}
				me := d.Readers[r]
				first, last := index.Cover(d.Index, me.Off, me.N)
				ended, reply, next := goOn(t, d, r)
				if next.Decoded > d.Decoded {
					if me.Block < first || me.Block > last {
						t.Fatal("decoded what is not wanted")
					}
					reads[r].decoded++
				}
				if reads[r].decoded > last-first+1 || len(next.Shelf.Held) > room {
					t.Fatal("too much", reads[r], next.Shelf)
				}
				d = next
				if !ended {
					continue
				}
				want := api.Reply{Text: text[reads[r].off:min(len(text), reads[r].off+reads[r].n)]}
				if reads[r].off+reads[r].n > len(text) {
					want.Code = api.ErrEnd
				}
				if reply != want {
					t.Fatal(i, room, reads[r], reply)
				}
			}
		}
	}
}

func TestOneReaderDecodesWhatIsNotKept(t *testing.T) {
	a := archives()[3]
	for room := 1; room <= 5; room++ {
		d := opened(t, a, room, 1)
		var used []int
		for i := range 100 {
			off, n := i*i*7%1001, 1+i*13%90
			first, last := index.Cover(d.Index, off, n)
			want := d.Decoded
			for k := first; k <= last && first >= 0; k++ {
				at := slices.Index(used, k)
				if at < 0 || at >= room {
					want++
				}
				if at >= 0 {
					used = slices.Delete(used, at, at+1)
				}
				used = append([]int{k}, used...)
			}
			_, next, e := seek.ReadAt(d, 0, off, n)
			if next.Decoded != want || e != api.OK || !slices.Equal(cache.Order(next.Shelf), used[:min(room, len(used))]) {
				t.Fatal(room, i, next.Decoded, want, e)
			}
			d = next
		}
	}
}

// deskOf is a right desk with a reader in each state, that have got two blocks, of four, and two blocks held.
func deskOf(t *testing.T) api.Desk {
	d := opened(t, archives()[3], 4, 5)
	_, d, _ = seek.ReadAt(d, 0, 0, 60)
	for r := 1; r <= 3; r++ {
		_, _, d, _ = seek.Ask(d, r, 30, 95)
	}
	for _, r := range []int{1, 1, 2, 2, 3, 3, 2, 3, 3} {
		_, _, d = goOn(t, d, r)
	}
	var states []int
	for _, r := range d.Readers {
		states = append(states, r.State)
	}
	if !slices.Equal(states, []int{0, 1, 2, 3, 0}) {
		t.Fatal(states)
	}
	return d
}

func TestRight(t *testing.T) {
	good := deskOf(t)
	keeping := slices.IndexFunc(good.Readers, func(r api.Reader) bool { return r.State == api.Keeping })
	if keeping < 0 || !seek.Right(good) {
		t.Fatal(good.Readers)
	}
	for i, x := range []struct {
		change func(d *api.Desk)
		right  bool
	}{
		{func(d *api.Desk) {}, true},
		{func(d *api.Desk) { d.Data = "another one" }, true},
		{func(d *api.Desk) { *d = api.Desk{} }, false},
		{func(d *api.Desk) { d.Decoded = -1 }, false}, {func(d *api.Desk) { d.Decoded = 1 << 40 }, true}, {func(d *api.Desk) { d.Decoded = 1<<40 + 1 }, false}, {func(d *api.Desk) { d.Decoded = math.MinInt }, false},
		{func(d *api.Desk) { d.Index[1].Len-- }, false}, {func(d *api.Desk) { d.Index[0].At = 31 }, false}, {func(d *api.Desk) { d.Index = d.Index[1:] }, false}, {func(d *api.Desk) { d.Index = d.Index[:1] }, false}, {func(d *api.Desk) { d.Index = d.Index[:len(d.Index)-1] }, true}, {func(d *api.Desk) { d.Index[0].Sum++ }, true},
		{func(d *api.Desk) { d.Shelf.Room = 0 }, false}, {func(d *api.Desk) { d.Shelf.Clock = 0 }, false}, {func(d *api.Desk) { d.Shelf.Held[0].Stamp = 0 }, false}, {func(d *api.Desk) { d.Shelf.Held[1].Block = 0 }, false},
		{func(d *api.Desk) { d.Shelf.Held[0].Text += "x" }, false}, {func(d *api.Desk) { d.Shelf.Held[1].Text = "" }, false}, {func(d *api.Desk) { d.Shelf.Held[0].Text = strings.Repeat("z", 40) }, true}, {func(d *api.Desk) { d.Shelf.Held[1].Block = len(d.Index) }, false}, {func(d *api.Desk) { d.Shelf.Held[1].Block = math.MaxInt }, false},
		{func(d *api.Desk) { d.Readers = nil }, false}, {func(d *api.Desk) { d.Readers = d.Readers[:1] }, true}, {func(d *api.Desk) { d.Readers = append(d.Readers, make([]api.Reader, 3)...) }, true}, {func(d *api.Desk) { d.Readers = append(d.Readers, make([]api.Reader, 4)...) }, false},
		{func(d *api.Desk) { d.Readers[0].Off = 1 }, false}, {func(d *api.Desk) { d.Readers[0].N = 1 }, false}, {func(d *api.Desk) { d.Readers[0].Block = 1 }, false}, {func(d *api.Desk) { d.Readers[0].Last = 1 }, false}, {func(d *api.Desk) { d.Readers[0].Got = "a" }, false}, {func(d *api.Desk) { d.Readers[4].Text = "a" }, false}, {func(d *api.Desk) { d.Readers[4].State = 4 }, false}, {func(d *api.Desk) { d.Readers[4].State = -1 }, false}, {func(d *api.Desk) { d.Readers[4].State = 1 }, false}, {func(d *api.Desk) { d.Readers[4].State = math.MinInt }, false},
		{func(d *api.Desk) { d.Readers[1] = api.Reader{} }, true}, {func(d *api.Desk) { d.Readers[1].State = 0 }, false}, {func(d *api.Desk) { d.Readers[1].State = 2 }, true}, {func(d *api.Desk) { d.Readers[1].State = 3 }, false}, {func(d *api.Desk) { d.Readers[1].State = 4 }, false}, {func(d *api.Desk) { d.Readers[1].State = math.MaxInt }, false},
		{func(d *api.Desk) { d.Readers[1].Off = -1 }, false}, {func(d *api.Desk) { d.Readers[1].Off = 29 }, false}, {func(d *api.Desk) { d.Readers[1].Off = math.MaxInt }, false}, {func(d *api.Desk) { d.Readers[1].N = 0 }, false}, {func(d *api.Desk) { d.Readers[1].N = -1 }, false}, {func(d *api.Desk) { d.Readers[1].N = 1 }, false}, {func(d *api.Desk) { d.Readers[1].N = 94 }, true}, {func(d *api.Desk) { d.Readers[1].N = 1 << 20; d.Readers[1].Last = len(d.Index) - 1 }, false}, {func(d *api.Desk) { d.Readers[1].N = 1<<20 - 1; d.Readers[1].Last = len(d.Index) - 1 }, true}, {func(d *api.Desk) { d.Readers[1].N = 1<<20 - 1 }, false}, {func(d *api.Desk) { d.Readers[1].N = math.MaxInt; d.Readers[1].Last = len(d.Index) - 1 }, false},
		{func(d *api.Desk) { d.Readers[2].Block = -1 }, false}, {func(d *api.Desk) { d.Readers[2].Block = 0 }, false}, {func(d *api.Desk) { d.Readers[2].Block = 0; d.Readers[2].Got = "" }, true}, {func(d *api.Desk) { d.Readers[2].Block = 1 }, false}, {func(d *api.Desk) { d.Readers[2].Block = 1; d.Readers[2].Got = strings.Repeat("g", 10) }, true}, {func(d *api.Desk) { d.Readers[2].Block = 1; d.Readers[2].Got = strings.Repeat("g", 40) }, false}, {func(d *api.Desk) { d.Readers[2].Block = 3; d.Readers[2].Got = strings.Repeat("g", 70) }, true}, {func(d *api.Desk) { d.Readers[2].Block = 4; d.Readers[2].Got = strings.Repeat("g", 71) }, true}, {func(d *api.Desk) { d.Readers[2].Block = 5; d.Readers[2].Got = strings.Repeat("g", 95) }, false}, {func(d *api.Desk) { d.Readers[2].Block = math.MaxInt }, false}, {func(d *api.Desk) { d.Readers[2].Block = math.MinInt }, false},
		{func(d *api.Desk) { d.Readers[2].Last++ }, false}, {func(d *api.Desk) { d.Readers[2].Last-- }, false}, {func(d *api.Desk) { d.Readers[2].Last = -1 }, false}, {func(d *api.Desk) { d.Readers[2].Got += "x" }, false}, {func(d *api.Desk) { d.Readers[2].Got = "" }, false}, {func(d *api.Desk) { d.Readers[2].Got = strings.Repeat("q", 50) }, true}, {func(d *api.Desk) { d.Readers[2].Text = "t" }, false},
		{func(d *api.Desk) { d.Readers[keeping].Text = "" }, false}, {func(d *api.Desk) { d.Readers[keeping].Text += "x" }, false}, {func(d *api.Desk) { d.Readers[keeping].Text = strings.Repeat("k", len(d.Readers[keeping].Text)) }, true}, {func(d *api.Desk) { d.Readers[keeping].State = 1 }, false}, {func(d *api.Desk) { d.Readers[keeping].State = 2 }, false}, {func(d *api.Desk) { d.Readers[keeping].State = 4 }, false},
	} {
		d := clone(good)
		x.change(&d)
		if seek.Right(d) != x.right {
			t.Errorf("%d: %+v", i, d.Readers)
			continue
		}
		if x.right {
			for r := range d.Readers {
				goOn(t, d, r)
			}
			continue
		}
		for _, r := range []int{0, 1, 9, -1} {
			if ended, reply, next, e := seek.Ask(d, r, 0, 1); ended || reply != (api.Reply{}) || !none(next) || e != api.ErrArg {
				t.Error(i, r, reply, e)
			}
			if ended, reply, next, e := seek.Step(d, r); ended || reply != (api.Reply{}) || !none(next) || e != api.ErrArg {
				t.Error(i, r, reply, e)
			}
			if reply, next, e := seek.ReadAt(d, r, -1, -1); reply != (api.Reply{}) || !none(next) || e != api.ErrArg {
				t.Error(i, r, reply, e)
			}
		}
	}
}

func TestNoBlocksDesk(t *testing.T) {
	d := opened(t, streams(1, ""), 1, 1)
	d.Readers[0] = api.Reader{State: api.Looking, N: 1, Block: -1, Last: -1}
	if seek.Right(d) {
		t.Error("no block to look for")
	}
}

func TestReaderAheadOfAllBytes(t *testing.T) {
	d := opened(t, streams(1, "banana"), 1, 1)
	d.Readers[0] = api.Reader{State: api.Looking, Off: 0, N: 3}
	if !seek.Right(d) {
		t.Error("not right")
	}
	for _, off := range []int{-1, -2} {
		d.Readers[0].Off = off
		if seek.Right(d) {
			t.Error("right", off)
		}
	}
}

func TestWhatIsWrongWithABlock(t *testing.T) {
	a := archives()[2]
	d := opened(t, a, 2, 2)
	cut := clone(d)
	cut.Data = a[:60]
	sum := clone(d)
	sum.Index[1].Sum ^= 1
	length := clone(d)
	length.Index[1].Len = 2
	near := clone(d)
	near.Index[1].At = 33
	other := clone(d)
	other.Data = strings.Repeat("\x00", len(a))
	far := clone(d)
	far.Index[1].At = math.MaxInt
	turned := clone(d)
	b := []byte(a)
	b[d.Index[1].At/8+9] ^= 16
	turned.Data = string(b)
	little := opened(t, streams(2, chance(80, 256, 9)), 1, 1)
	little.Index[0].Room = 40
	for i, x := range []struct {
		d      api.Desk
		off, n int
		code   api.Errno
	}{{cut, 0, 41, api.ErrShort}, {sum, 0, 41, api.ErrForm}, {sum, 40, 1, api.ErrForm}, {length, 39, 9, api.ErrForm}, {length, 40, 1, api.ErrForm}, {far, 40, 1, api.ErrShort}, {near, 40, 1, api.ErrForm}, {other, 5, 1, api.ErrForm}, {turned, 30, 11, api.ErrSum}, {little, 0, 1, api.ErrLong}} {
		if !seek.Right(x.d) {
			t.Fatal("not right", i)
		}
		reply, next, e := seek.ReadAt(x.d, 0, x.off, x.n)
		if reply != (api.Reply{Code: x.code}) || e != api.OK || next.Readers[0] != (api.Reader{}) || !seek.Right(next) {
			t.Error(i, reply, e)
		}
		_, _, step, _ := seek.Ask(x.d, 0, x.off, x.n)
		for ended := false; !ended; {
			ended, reply, step = goOn(t, step, 0)
		}
		if !same(step, next) || reply.Code != x.code {
			t.Error(i, reply)
		}
	}
}

func TestClocksAtTheirEnd(t *testing.T) {
	a := archives()[2]
	text, _ := stream.Read(a)
	d := opened(t, a, 2, 1)
	_, d, _ = seek.ReadAt(d, 0, 40, 1)
	d.Shelf.Clock = 1 << 40
	d.Decoded = 1<<40 - 1
	for range 2 {
		reply, next, e := seek.ReadAt(d, 0, 38, 3)
		want := clone(d)
		want.Decoded = 1 << 40
		if reply != (api.Reply{Text: text[38:]}) || !same(next, want) || e != api.OK {
			t.Fatal(reply, next.Decoded, next.Shelf, e)
		}
		d = next
	}
}

func TestShelfIsBelieved(t *testing.T) {
	// A desk of somebody's own may hold another text: the reader gets it, as it is held.
	d := opened(t, streams(1, "banana"), 2, 1)
	d.Shelf = api.Shelf{Room: 2, Clock: 5, Held: []api.Held{{Block: 0, Stamp: 3, Text: "orange"}}}
	reply, next, e := seek.ReadAt(d, 0, 1, 3)
	if reply != (api.Reply{Text: "ran"}) || next.Decoded != 0 || next.Shelf.Held[0].Stamp != 6 || e != api.OK {
		t.Error(reply, next, e)
	}
}

func TestMemory(t *testing.T) {
	good := deskOf(t)
	spoil := func(d api.Desk) {
		for i := range d.Index[:cap(d.Index)] {
			d.Index[:cap(d.Index)][i] = api.Entry{}
		}
		for i := range d.Readers[:cap(d.Readers)] {
			d.Readers[:cap(d.Readers)][i] = api.Reader{State: 9}
		}
		for i := range d.Shelf.Held[:cap(d.Shelf.Held)] {
			d.Shelf.Held[:cap(d.Shelf.Held)][i] = api.Held{Block: 9}
		}
	}
	had := clone(good)
	for i, call := range []func() api.Desk{
		func() api.Desk { _, _, d, _ := seek.Ask(good, 0, 0, 0); return d },
		func() api.Desk { _, _, d, _ := seek.Ask(good, 0, 5, 60); return d },
		func() api.Desk { _, _, d, _ := seek.Step(good, 0); return d },
		func() api.Desk { _, _, d, _ := seek.Step(good, 1); return d },
		func() api.Desk { _, _, d, _ := seek.Step(good, 2); return d },
		func() api.Desk { _, _, d, _ := seek.Step(good, 3); return d },
		func() api.Desk { _, d, _ := seek.ReadAt(good, 0, 0, 0); return d },
		func() api.Desk { _, d, _ := seek.ReadAt(good, 0, 5, 60); return d },
		func() api.Desk { d, _ := seek.Open(good.Data, 4, 5); return d },
	} {
		one := call()
		want := clone(one)
		spoil(call())
		if !same(one, want) || !same(good, had) {
			t.Fatal("an answer is changed by another one", i)
		}
	}
}

func TestLongReads(t *testing.T) {
	// Many little blocks: what is got grows, and is not laid anew with each of them.
	text := chance(60000, 256, 5)
	var l []string
	for i := 0; i < len(text); i += 4 {
		l = append(l, text[i:i+4])
	}
	a, e := stream.Write(1, l...)
	if e != api.OK {
		t.Fatal(e)
	}
	d := opened(t, a, 64, 1)
	reply, next, e := seek.ReadAt(d, 0, 2, 1<<20-1)
	if reply.Text != text[2:] || reply.Code != api.ErrEnd || next.Decoded != len(l) || crc.Sum(reply.Text) != crc.Sum(text[2:]) || e != api.OK {
		t.Error(len(reply.Text), reply.Code, next.Decoded, e)
	}
}
