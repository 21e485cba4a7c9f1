package block_test

import (
	"math"
	"strings"
	"testing"

	"pressmark/api"
	"pressmark/bits"
	"pressmark/block"
	"pressmark/choose"
	"pressmark/code"
	"pressmark/crc"
	"pressmark/delta"
	"pressmark/rle"
	"pressmark/selectors"
	"pressmark/squeeze"
	"pressmark/used"
)

// fields are what a block is made of, each of which a test may make other than it should be.
type fields struct {
	magic, sum, origin uint64
	alphabet           api.Bits
	count, groups      uint64
	chosen             api.Bits
	tables             []api.Bits
	symbols            []api.Bits
}

func number(v uint64, n int) api.Bits {
	b, e := bits.Put(api.Bits{}, v, n)
	if e != api.OK {
		panic("number")
	}
	return b
}

func cat(l ...api.Bits) api.Bits {
	b, e := bits.Cat(l...)
	if e != api.OK {
		panic("cat")
	}
	return b
}

func (f fields) bits() api.Bits {
	l := []api.Bits{number(f.magic, 48), number(f.sum, 32), number(f.origin, 16), f.alphabet, number(f.count, 3), number(f.groups, 15), f.chosen}
	return cat(append(append(l, f.tables...), f.symbols...)...)
}

// of are the fields of a text's block.
func of(s string) fields {
	q, _ := squeeze.Squeeze(rle.Pack(s))
	return ofSqueezed(q, crc.Sum(s))
}

func ofSqueezed(q api.Squeezed, sum uint32) fields {
	both, chosen, _ := choose.Tables(q.Symbols, squeeze.Codes(q))
	f := fields{magic: 0x314159265359, sum: uint64(sum), origin: uint64(q.Origin), alphabet: used.Map(q.Alphabet), count: 2, groups: uint64(len(chosen))}
	f.chosen, _ = selectors.Put(chosen, 2)
	for _, lens := range both {
		b, _ := delta.Put(lens)
		f.tables = append(f.tables, b)
	}
	for k := range chosen {
		b, _ := code.Put(both[chosen[k]], q.Symbols[10*k:min(10*k+10, len(q.Symbols))]...)
		f.symbols = append(f.symbols, b)
	}
	return f
}

// lensBits are lengths as bits, by their words: the code's own check is not asked.
func lensBits(lens ...int) api.Bits {
	b, e := delta.Put(lens)
	if e != api.OK {
		panic("lens")
	}
	return b
}

// at stands bits at a place, so that right behind them nothing is left.
func atEnd(b api.Bits) (string, int) {
	ahead := (16 - b.N%8) % 8
	return cat(number(1<<ahead-1, ahead), b).Data, ahead
}

func first(b api.Bits, n int) api.Bits {
	l := []api.Bits{}
	for k := 0; k < n; k += 64 {
		m := min(64, n-k)
		v, _ := bits.Get(b.Data, k, m)
		l = append(l, number(v, m))
	}
	return cat(l...)
}

// chance is n bytes, of so many kinds, that look as if by chance, the same ones each time.
func chance(n, kinds int, seed uint64) string {
	b := make([]byte, n)
	for i := range b {
		seed = seed*6364136223846793005 + 1442695040888963407
		b[i] = byte(int(seed>>33) % kinds * 255 / max(1, kinds-1))
	}
	return string(b)
}

func texts() []string {
	l := []string{"a", "banana", "aaaa", "aaaaaaaaa", strings.Repeat("x", 255), strings.Repeat("x", 18360), "the quick brown fox jumps over the lazy dog", "\x00", "\xff\x00\xff\x00", chance(360, 256, 1), chance(288, 2, 2), chance(200, 16, 3)}
	for n := 1; n < 60; n += 3 {
		l = append(l, chance(n, 2, uint64(n)), chance(n, 7, uint64(n)), chance(4*n, 256, uint64(n)))
	}
	return l
}

func TestEncode(t *testing.T) {
	for _, s := range texts() {
		n := rle.Length(s)
		for _, room := range []int{n, n + 1, 360} {
			if room > 360 {
				continue
			}
			b, e := block.Encode(s, room)
			if b != of(s).bits() || e != api.OK {
				t.Fatalf("%q %d: %d", s, room, e)
			}
		}
		if n > 1 {
			if b, e := block.Encode(s, n-1); b != (api.Bits{}) || e != api.ErrLong {
				t.Fatalf("%q: %d %d", s, b.N, e)
			}
		}
	}
}

func TestEncodeByHand(t *testing.T) {
	// Of `a`: alphabet a, origin 0, symbols 0 and 2 (the end); lengths by 1, 1, 1: 2, 2, 1; by 0, 0, 0 the same.
	want := cat(number(0x314159265359, 48), number(uint64(crc.Sum("a")), 32), number(0, 16),
		number(1<<9, 16), number(1<<14, 16), number(2, 3), number(1, 15), number(0, 1),
		number(0b0001000110, 10), number(0b0001000110, 10), number(0b10, 2), number(0, 1))
	b, e := block.Encode("a", 1)
	if b != want || e != api.OK {
		t.Errorf("%x %d, want %x %d (%d)", b.Data, b.N, want.Data, want.N, e)
	}
}

func TestEncodeWrong(t *testing.T) {
	for i, x := range []struct {
		s    string
		room int
		e    api.Errno
	}{
		{"", 40, api.ErrArg}, {"", 0, api.ErrArg}, {"a", 0, api.ErrArg}, {"a", -1, api.ErrArg}, {"a", 361, api.ErrArg}, {"a", math.MaxInt, api.ErrArg}, {"a", math.MinInt, api.ErrArg}, {strings.Repeat("ab", 1000), 361, api.ErrArg},
		{"ab", 1, api.ErrLong}, {"aaaa", 4, api.ErrLong}, {chance(361, 256, 9), 360, api.ErrLong}, {strings.Repeat("ab", 100000), 360, api.ErrLong}, {strings.Repeat("a", 18361), 360, api.ErrLong},
	} {
		if b, e := block.Encode(x.s, x.room); b != (api.Bits{}) || e != x.e {
			t.Error(i, b, e)
		}
	}
}

func TestDecodeAnywhere(t *testing.T) {
	for _, s := range texts() {
		b := of(s).bits()
		for _, ahead := range []int{0, 1, 7, 8, 32, 45} {
			for _, behind := range []api.Bits{{}, number(0, 9), number(math.MaxUint64, 64)} {
				data := cat(number(0x15a5a5a5a5a5, ahead), b, behind).Data
				got, e := block.Decode(data, ahead, 360)
				if got != (api.Block{Text: s, Sum: crc.Sum(s), At: ahead, Next: ahead + b.N}) || e != api.OK {
					t.Fatalf("%q %d: %v %d", s, ahead, got, e)
				}
			}
		}
		n := rle.Length(s)
		if got, e := block.Decode(b.Data, 0, n); got.Text != s || e != api.OK {
			t.Fatalf("%q: %d", s, e)
		}
		if n > 1 {
			if got, e := block.Decode(b.Data, 0, n-1); got != (api.Block{}) || e != api.ErrLong {
				t.Fatalf("%q: %v %d", s, got, e)
			}
		}
	}
}

func TestDecodeCutOff(t *testing.T) {
	for _, s := range []string{"a", "banana", chance(40, 9, 4), chance(288, 256, 5)} {
		b := of(s).bits()
		for n := range b.N {
			data, at := atEnd(first(b, n))
			if got, e := block.Decode(data, at, 360); got != (api.Block{}) || e != api.ErrShort {
				t.Fatalf("%q %d of %d: %v %d", s, n, b.N, got, e)
			}
		}
	}
	for _, at := range []int{8, 9, math.MaxInt, math.MaxInt - 47} {
		if got, e := block.Decode("a", at, 40); got != (api.Block{}) || e != api.ErrShort {
			t.Error(at, got, e)
		}
	}
	if got, e := block.Decode("", 0, 1); got != (api.Block{}) || e != api.ErrShort {
		t.Error(got, e)
	}
}

func TestDecodeWrongArguments(t *testing.T) {
	data := of("banana").bits().Data
	for i, x := range []struct{ at, room int }{{-1, 40}, {math.MinInt, 40}, {0, 0}, {0, -1}, {0, 361}, {0, math.MaxInt}, {0, math.MinInt}, {-1, 0}, {9999, 0}} {
		if got, e := block.Decode(data, x.at, x.room); got != (api.Block{}) || e != api.ErrArg {
			t.Error(i, got, e)
		}
	}
}

// The fields of `banana`: alphabet abn, origin 3, symbols 3 0 3 3 1 4, of five codes.
func TestDecodeFirstError(t *testing.T) {
	flat := lensBits(3, 3, 3, 3, 3)
	for _, x := range []struct {
		name   string
		change func(f *fields)
		e      api.Errno
	}{
		{"nothing", func(f *fields) {}, api.OK},
		{"magic", func(f *fields) { f.magic ^= 1 }, api.ErrForm},
		{"first bit of magic", func(f *fields) { f.magic ^= 1 << 47 }, api.ErrForm},
		{"magic of the end", func(f *fields) { f.magic = 0x177245385090 }, api.ErrForm},
		{"sum", func(f *fields) { f.sum ^= 1 << 31 }, api.ErrSum},
		{"other turn", func(f *fields) { f.origin = 0 }, api.ErrSum},
		{"origin", func(f *fields) { f.origin = 6 }, api.ErrForm},
		{"origin and sum", func(f *fields) { f.origin = 65535; f.sum ^= 1 }, api.ErrForm},
		{"no bytes", func(f *fields) { f.alphabet = number(0, 16) }, api.ErrForm},
		{"no bytes of sixteen", func(f *fields) { f.alphabet = number(1<<31, 32) }, api.ErrForm},
		{"other bytes", func(f *fields) { f.alphabet = used.Map("xyz") }, api.ErrSum},
		{"no tables", func(f *fields) { f.count = 0 }, api.ErrForm},
		{"one table", func(f *fields) { f.count = 1 }, api.ErrForm},
		{"one table, no groups", func(f *fields) { f.count = 1; f.groups = 0 }, api.ErrForm},
		{"seven tables", func(f *fields) { f.count = 7 }, api.ErrForm},
		{"no groups", func(f *fields) { f.groups = 0; f.chosen = api.Bits{} }, api.ErrForm},
		{"no such table", func(f *fields) { f.chosen = number(3, 2) }, api.ErrForm},
		{"length 0", func(f *fields) { f.tables[0] = number(0, 20) }, api.ErrForm},
		{"length 21", func(f *fields) { f.tables[0] = number(21, 5) }, api.ErrForm},
		{"length 0 of the second table", func(f *fields) { f.tables[1] = number(0, 5) }, api.ErrForm},
		{"too many words", func(f *fields) { f.tables[0] = lensBits(2, 2, 2, 2, 2) }, api.ErrOver},
		{"too many words of the second table", func(f *fields) { f.tables[1] = lensBits(1, 1, 1, 1, 1) }, api.ErrOver},
		{"too many words ahead of a length 0", func(f *fields) { f.tables = []api.Bits{lensBits(2, 2, 2, 2, 2), number(0, 5)} }, api.ErrOver},
		{"length 0 ahead of too many words", func(f *fields) { f.tables = []api.Bits{number(0, 5), lensBits(1, 1, 1, 1, 1)} }, api.ErrForm},
		{"no word", func(f *fields) { f.tables[0] = flat; f.symbols = []api.Bits{number(5, 3)} }, api.ErrForm},
		{"end in the first of two groups", func(f *fields) { f.groups = 2; f.chosen = number(0, 2) }, api.ErrForm},
		{"no end", func(f *fields) { f.tables[0] = flat; f.symbols = []api.Bits{number(0, 30)} }, api.ErrForm},
		{"end behind the group", func(f *fields) { f.tables[0] = flat; f.symbols = []api.Bits{number(4, 33)} }, api.ErrForm},
		{"end alone", func(f *fields) { f.tables[0] = flat; f.symbols = []api.Bits{number(4, 3)} }, api.ErrForm},
		{"too long", func(f *fields) { f.tables[0] = flat; f.symbols = []api.Bits{number(0o1111114, 21)} }, api.ErrLong},
		{"too long, wrong origin", func(f *fields) { f.origin = 999; f.tables[0] = flat; f.symbols = []api.Bits{number(0o1111114, 21)} }, api.ErrLong},
		{"count lacking", func(f *fields) { f.origin = 0; f.tables[0] = flat; f.symbols = []api.Bits{number(0o104, 9)} }, api.ErrForm},
	} {
		f := of("banana")
		x.change(&f)
		got, e := block.Decode(cat(f.bits(), number(0, 50)).Data, 0, 40)
		if e != x.e || e != api.OK && got != (api.Block{}) {
			t.Errorf("%s: %v %d, want %d", x.name, got, e, x.e)
		}
	}
}

func TestDecodeReadsInOrder(t *testing.T) {
	// Each part is wrong or lacking behind one that is wrong: the first one is told.
	f := of("banana")
	for i, x := range []struct {
		b api.Bits
		e api.Errno
	}{
		{number(0, 47), api.ErrShort}, {number(0, 48), api.ErrForm}, {number(f.magic, 48), api.ErrShort}, {cat(number(f.magic, 48), number(0, 31)), api.ErrShort}, {cat(number(f.magic, 48), number(0, 32+15)), api.ErrShort},
		{cat(number(f.magic, 48), number(0, 48+16)), api.ErrForm}, {cat(number(f.magic, 48), number(0, 48), number(1<<15, 16)), api.ErrShort},
		{cat(number(f.magic, 48), number(0, 48), f.alphabet, number(3, 2)), api.ErrShort}, {cat(number(f.magic, 48), number(0, 48), f.alphabet, number(7, 3)), api.ErrForm}, {cat(number(f.magic, 48), number(0, 48), f.alphabet, number(2, 3), number(0, 14)), api.ErrShort}, {cat(number(f.magic, 48), number(0, 48), f.alphabet, number(2, 3), number(0, 15)), api.ErrForm},
		{cat(number(f.magic, 48), number(0, 48), f.alphabet, number(2, 3), number(9, 15), number(0, 8)), api.ErrShort}, {cat(number(f.magic, 48), number(0, 48), f.alphabet, number(2, 3), number(9, 15), number(3, 2)), api.ErrForm}, {cat(number(f.magic, 48), number(0, 48), f.alphabet, number(2, 3), number(1, 15), number(0, 1), number(0, 4)), api.ErrShort}, {cat(number(f.magic, 48), number(0, 48), f.alphabet, number(2, 3), number(1, 15), number(0, 1), number(0, 5)), api.ErrForm},
		{cat(number(f.magic, 48), number(0, 48), f.alphabet, number(2, 3), number(1, 15), number(0, 1), lensBits(1, 1, 1, 1, 1)), api.ErrOver},
	} {
		data, at := atEnd(x.b)
		if got, e := block.Decode(data, at, 40); got != (api.Block{}) || e != x.e {
			t.Error(i, got, e)
		}
	}
}

func TestDecodeOfOtherMakers(t *testing.T) {
	// Six tables, the last one chosen; more bytes in the alphabet than are used; a code that does not use up 1.
	f := of("banana")
	flat := lensBits(3, 3, 3, 3, 4)
	f.count, f.chosen = 6, number(0b111110, 6)
	f.tables = []api.Bits{flat, flat, flat, flat, flat, lensBits(4, 5, 3, 2, 2)}
	f.symbols = []api.Bits{}
	one, _ := code.Put([]int{4, 5, 3, 2, 2}, 3, 0, 3, 3, 1, 4)
	f.symbols = append(f.symbols, one)
	b := f.bits()
	if got, e := block.Decode(b.Data, 0, 6); got != (api.Block{Text: "banana", Sum: crc.Sum("banana"), Next: b.N}) || e != api.OK {
		t.Error(got, e)
	}
	q := api.Squeezed{Alphabet: "abnxyz", Origin: 3, Symbols: []int{3, 0, 3, 3, 1, 7}}
	b = ofSqueezed(q, crc.Sum("banana")).bits()
	if got, e := block.Decode(b.Data, 0, 6); got != (api.Block{Text: "banana", Sum: crc.Sum("banana"), Next: b.N}) || e != api.OK {
		t.Error(got, e)
	}
	// Two counts, where one would do: what is told is longer than any made text of that room, but within the bound.
	packed := strings.Repeat("a", 4) + "\xff" + strings.Repeat("a", 4) + "\xff"
	text := strings.Repeat("a", 518)
	q, _ = squeeze.Squeeze(packed)
	b = ofSqueezed(q, crc.Sum(text)).bits()
	if got, e := block.Decode(b.Data, 0, 10); got.Text != text || e != api.OK {
		t.Error(len(got.Text), e)
	}
}

func TestDecodeManyGroups(t *testing.T) {
	// The end comes as the last symbol of the last group, and none behind it is read.
	for _, n := range []int{9, 10, 19, 20, 39} {
		s := chance(n, 256, uint64(n))
		q, _ := squeeze.Squeeze(s)
		b := of(s).bits()
		if got, e := block.Decode(b.Data, 0, 360); got.Text != s || got.Next != b.N || e != api.OK {
			t.Error(n, len(q.Symbols), e)
		}
	}
	f := of("a")
	f.groups = 32767
	f.chosen = api.Bits{Data: strings.Repeat("\x00", 4096), N: 32767}
	f.symbols = []api.Bits{{Data: strings.Repeat("\xaa", 327680/4), N: 8 * 327680 / 4}}
	if got, e := block.Decode(f.bits().Data, 0, 360); got != (api.Block{}) || e != api.ErrForm {
		t.Error(got, e)
	}
}

func TestDecodeEndsWhateverIsThere(t *testing.T) {
	b := of(chance(60, 9, 8)).bits()
	for k := range b.N {
		data := []byte(b.Data)
		data[k/8] ^= 128 >> (k % 8)
		got, e := block.Decode(string(data), 0, 360)
		if e == api.OK && (len(got.Text) < 1 || len(got.Text) > 52*360 || crc.Sum(got.Text) != got.Sum) || e != api.OK && got != (api.Block{}) {
			t.Error(k, got, e)
		}
	}
}
