package sidecar_test

import (
	"encoding/binary"
	"math"
	"slices"
	"strings"
	"testing"

	"pressmark/api"
	"pressmark/crc"
	"pressmark/index"
	"pressmark/pack"
	"pressmark/sidecar"
)

// entry is one by its numbers, as a sidecar may have them.
type entry struct {
	at     uint64
	room   uint16
	from   uint64
	length uint32
	sum    uint32
}

// made is a sidecar by its words, of whatever numbers.
func made(name string, size uint64, sum, count uint32, l ...entry) string {
	b := []byte(name)
	b = binary.BigEndian.AppendUint64(b, size)
	b = binary.BigEndian.AppendUint32(b, sum)
	b = binary.BigEndian.AppendUint32(b, count)
	for _, x := range l {
		b = binary.BigEndian.AppendUint64(b, x.at)
		b = binary.BigEndian.AppendUint16(b, x.room)
		b = binary.BigEndian.AppendUint64(b, x.from)
		b = binary.BigEndian.AppendUint32(b, x.length)
		b = binary.BigEndian.AppendUint32(b, x.sum)
	}
	return string(b)
}

func madeOf(a string, l []api.Entry) string {
	var out []entry
	for _, x := range l {
		out = append(out, entry{uint64(x.At), uint16(x.Room), uint64(x.From), uint32(x.Len), x.Sum})
	}
	return made("PMi1", uint64(len(a)), crc.Sum(a), uint32(len(l)), out...)
}

// chance is n bytes, of so many kinds, that look as if by chance, the same ones each time.
func chance(n, kinds int, seed uint64) string {
	b := make([]byte, n)
	for i := range b {
		seed = seed*6364136223846793005 + 1442695040888963407
		b[i] = byte(int(seed>>33) % kinds * 255 / max(1, kinds-1))
	}
	return string(b)
}

func archives() []string {
	var l []string
	for i, parts := range [][]string{{""}, {"banana"}, {chance(41, 256, 1)}, {"", "a", ""}, {chance(200, 256, 2), chance(700, 3, 3), "b"}, {strings.Repeat("x", 20000), "y", strings.Repeat("z", 3000)}} {
		a, e := pack.Streams(i+1, parts...)
		if e != api.OK {
			panic("archive")
		}
		l = append(l, a)
	}
	return l
}

// great is a right index whose numbers are great.
var great = []api.Entry{{At: 32, Room: 40, Len: 1, Sum: math.MaxUint32}, {At: 1 << 40, Room: 360, From: 1, Len: 18720, Sum: 1 << 31}, {At: math.MaxInt, Room: 280, From: 18721, Len: 258, Sum: 0x01020304}}

func TestSave(t *testing.T) {
	for i, a := range archives() {
		l, _ := index.Scan(a)
		s, e := sidecar.Save(a, l)
		if s != madeOf(a, l) || len(s) != 20+26*len(l) || e != api.OK {
			t.Errorf("%d: %x %d", i, s, e)
		}
	}
	for _, a := range []string{"", "any bytes", strings.Repeat("long", 20000)} {
		for _, l := range [][]api.Entry{nil, great, great[:2]} {
			if s, e := sidecar.Save(a, l); s != madeOf(a, l) || e != api.OK {
				t.Errorf("%x %d", s, e)
			}
		}
	}
}

func TestSaveWrong(t *testing.T) {
	for i, l := range [][]api.Entry{great[1:], {{}}, {{At: 31, Room: 40, Len: 1}}, {{At: 32, Room: 40, Len: 0}}, {{At: 32, Room: 41, Len: 1}}, {{At: 32, Room: 40, From: 1, Len: 1}}, {great[0], great[0]}, {great[0], great[2]}} {
		if s, e := sidecar.Save("abc", l); s != "" || e != api.ErrArg {
			t.Errorf("%d: %x %d", i, s, e)
		}
	}
}

func TestParse(t *testing.T) {
	for i, a := range append(archives(), "", "any") {
		for _, l := range [][]api.Entry{nil, great, great[:1]} {
			s := madeOf(a, l)
			got, size, sum, e := sidecar.Parse(s)
			if !slices.Equal(got, l) || size != len(a) || sum != crc.Sum(a) || e != api.OK {
				t.Error(i, got, size, sum, e)
			}
			if again, e := sidecar.Save(a, got); again != s || e != api.OK {
				t.Error(i, again, e)
			}
		}
	}
	if l, size, sum, e := sidecar.Parse(made("PMi1", math.MaxInt64, math.MaxUint32, 0)); len(l) != 0 || size != math.MaxInt || sum != math.MaxUint32 || e != api.OK {
		t.Error(l, size, sum, e)
	}
}

func TestParseWrong(t *testing.T) {
	good := entry{at: 32, room: 40, length: 1}
	next := entry{at: 99, room: 80, from: 1, length: 5}
	change := func(f func(x *entry)) entry {
		x := next
		f(&x)
		return x
	}
	whole := made("PMi1", 9, 8, 2, good, next)
	cases := []struct {
		s string
		e api.Errno
	}{
		{"", api.ErrShort}, {"abc", api.ErrShort}, {whole[:19], api.ErrShort}, {strings.Repeat("x", 19), api.ErrShort}, {strings.Repeat("x", 20), api.ErrForm},
		{made("PMk1", 9, 8, 0), api.ErrForm}, {made("PMi2", 9, 8, 0), api.ErrForm}, {made("pMi1", 9, 8, 0), api.ErrForm}, {made("PMi2", 9, 8, 1), api.ErrForm}, {made("PMi1", 1<<63, 8, 0), api.ErrForm}, {made("PMi1", math.MaxUint64, 8, 1), api.ErrForm}, {made("PMi1", 1<<63, 8, 0) + "x", api.ErrForm},
		{whole[:20], api.ErrShort}, {whole[:46], api.ErrShort}, {whole[:71], api.ErrShort}, {whole + "x", api.ErrForm}, {whole + whole, api.ErrForm}, {made("PMi1", 9, 8, 0) + "x", api.ErrForm}, {made("PMi1", 9, 8, 1, good, next), api.ErrForm}, {made("PMi1", 9, 8, 3, good, next), api.ErrShort}, {made("PMi1", 9, 8, math.MaxUint32, good, next), api.ErrShort}, {made("PMi1", 9, 8, 1<<31, good), api.ErrShort}, {made("PMi1", 9, 8, 3, good, change(func(x *entry) { x.at = 1 << 63 })), api.ErrShort},
		{made("PMi1", 9, 8, 1, next), api.ErrForm}, {made("PMi1", 9, 8, 2, good, good), api.ErrForm}, {made("PMi1", 9, 8, 1, entry{}), api.ErrForm},
	}
	for _, f := range []func(x *entry){
		func(x *entry) { x.at = 32 }, func(x *entry) { x.at = 0 }, func(x *entry) { x.at = 1 << 63 }, func(x *entry) { x.at = math.MaxUint64 }, func(x *entry) { x.from = 1<<63 | 1 }, func(x *entry) { x.from = 2 }, func(x *entry) { x.from = 0 }, func(x *entry) { x.from = math.MaxUint64 },
		func(x *entry) { x.room = 0 }, func(x *entry) { x.room = 41 }, func(x *entry) { x.room = 400 }, func(x *entry) { x.room = 65535 }, func(x *entry) { x.length = 0 }, func(x *entry) { x.length = 18721 }, func(x *entry) { x.length = math.MaxUint32 },
	} {
		cases = append(cases, struct {
			s string
			e api.Errno
		}{made("PMi1", 9, 8, 2, good, change(f)), api.ErrForm})
	}
	for i, x := range cases {
		if l, size, sum, e := sidecar.Parse(x.s); len(l) != 0 || size != 0 || sum != 0 || e != x.e {
			t.Error(i, l, size, sum, e, x.e)
		}
		for _, a := range []string{"", "abc", archives()[1]} {
			if l, e := sidecar.Load(a, x.s); len(l) != 0 || e != x.e {
				t.Error(i, l, e, x.e)
			}
		}
	}
	if l, size, sum, e := sidecar.Parse(whole); len(l) != 2 || size != 9 || sum != 8 || e != api.OK {
		t.Error(l, size, sum, e)
	}
}

func TestLoad(t *testing.T) {
	all := archives()
	for i, a := range all {
		own, _ := index.Scan(a)
		s, _ := sidecar.Save(a, own)
		if l, e := sidecar.Load(a, s); !slices.Equal(l, own) || e != api.OK {
			t.Error(i, l, e)
		}
		for k, other := range all {
			if k == i {
				continue
			}
			if l, e := sidecar.Load(other, s); len(l) != 0 || e != api.ErrSum {
				t.Error(i, k, l, e)
			}
		}
		for n := range own {
			for _, f := range []func(x *api.Entry){func(x *api.Entry) { x.At++ }, func(x *api.Entry) { x.Room = 400 - x.Room }, func(x *api.Entry) { x.Sum ^= 1 }} {
				l := slices.Clone(own)
				f(&l[n])
				s, e := sidecar.Save(a, l)
				if e != api.OK {
					continue
				}
				if got, e := sidecar.Load(a, s); !slices.Equal(l, own) && (len(got) != 0 || e != api.ErrForm) {
					t.Error(i, n, got, e)
				}
			}
		}
		if len(own) > 0 {
			l := slices.Clone(own)
			l[len(l)-1].Len = l[len(l)-1].Len%18720 + 1
			for _, x := range [][]api.Entry{l, own[:len(own)-1], append(slices.Clone(own), api.Entry{At: 1 << 30, Room: 40, From: index.Total(own), Len: 1})} {
				s, _ := sidecar.Save(a, x)
				if got, e := sidecar.Load(a, s); len(got) != 0 || e != api.ErrForm {
					t.Error(i, got, e)
				}
			}
		}
	}
}

func TestLoadOfNoArchive(t *testing.T) {
	a := archives()[4]
	turned := []byte(a)
	turned[12] ^= 1
	for _, x := range []string{"", "a", "PMk1", a[:len(a)-1], a + "\x00", string(turned)} {
		_, want := index.Scan(x)
		for _, l := range [][]api.Entry{nil, great} {
			s, _ := sidecar.Save(x, l)
			if got, e := sidecar.Load(x, s); len(got) != 0 || e != want || e == api.OK {
				t.Errorf("%q: %v %d, want %d", x, got, e, want)
			}
			// The sum is held against it first; the size, too.
			if got, e := sidecar.Load(x, made("PMi1", uint64(len(x)), crc.Sum(x)^1, 0)); len(got) != 0 || e != api.ErrSum {
				t.Errorf("%q: %v %d", x, got, e)
			}
			if got, e := sidecar.Load(x, made("PMi1", uint64(len(x))+1, crc.Sum(x), 0)); len(got) != 0 || e != api.ErrSum {
				t.Errorf("%q: %v %d", x, got, e)
			}
		}
	}
}

func TestExample(t *testing.T) {
	a, _ := pack.Pack("", 1)
	s, e := sidecar.Save(a, nil)
	if len(s) != 20 || e != api.OK {
		t.Error(len(s), e)
	}
	if l, e := sidecar.Load(a, s); len(l) != 0 || e != api.OK {
		t.Error(l, e)
	}
	b, _ := pack.Pack("", 2)
	if l, e := sidecar.Load(b, s); len(l) != 0 || e != api.ErrSum {
		t.Error(l, e)
	}
}

func TestEachBitOfASidecar(t *testing.T) {
	a := archives()[4]
	own, _ := index.Scan(a)
	s, _ := sidecar.Save(a, own)
	for k := range 8 * len(s) {
		b := []byte(s)
		b[k/8] ^= 128 >> (k % 8)
		l, e := sidecar.Load(a, string(b))
		if len(l) != 0 || e == api.OK {
			t.Fatal(k, e)
		}
		_, _, _, parsed := sidecar.Parse(string(b))
		want := parsed
		if parsed == api.OK {
			want = api.ErrForm
			if k < 16*8 {
				want = api.ErrSum
			}
		}
		if e != want {
			t.Fatal(k, e, want)
		}
	}
}

func TestMemory(t *testing.T) {
	a := archives()[4]
	own, _ := index.Scan(a)
	had := slices.Clone(own)
	s, _ := sidecar.Save(a, own)
	one, _ := sidecar.Load(a, s)
	two, _, _, _ := sidecar.Parse(s)
	three, _ := sidecar.Load(a, s)
	for _, l := range [][]api.Entry{two, three} {
		for i := range l[:cap(l)] {
			l[:cap(l)][i] = api.Entry{}
		}
	}
	if !slices.Equal(one, had) || !slices.Equal(own, had) {
		t.Error("an answer is changed by another one")
	}
}
