package stream_test

import (
	"math"
	"slices"
	"strings"
	"testing"

	"pressmark/api"
	"pressmark/bits"
	"pressmark/block"
	"pressmark/crc"
	"pressmark/stream"
)

func number(v uint64, n int) api.Bits {
	b, e := bits.Put(api.Bits{}, v, n)
	if e != api.OK {
		panic("number")
	}
	return b
}

func cat(l ...api.Bits) api.Bits {
	b, e := bits.Cat(l...)
	if e != api.OK {
		panic("cat")
	}
	return b
}

// chance is n bytes, of so many kinds, that look as if by chance, the same ones each time.
func chance(n, kinds int, seed uint64) string {
	b := make([]byte, n)
	for i := range b {
		seed = seed*6364136223846793005 + 1442695040888963407
		b[i] = byte(int(seed>>33) % kinds * 255 / max(1, kinds-1))
	}
	return string(b)
}

func head(s string) api.Bits { return api.Bits{Data: s, N: 8 * len(s)} }

// made is a stream by its words, as bits, without what fills the last byte; and the blocks in it.
func made(level int, texts ...string) (api.Bits, []api.Block) {
	all := head("PMk" + string('0'+rune(level)))
	var l []api.Block
	var sum uint32
	for _, s := range texts {
		b, e := block.Encode(s, 40*level)
		if e != api.OK {
			panic("block")
		}
		l = append(l, api.Block{Text: s, Sum: crc.Sum(s), At: all.N, Next: all.N + b.N})
		all = cat(all, b)
		sum = crc.Fold(sum, crc.Sum(s))
	}
	return cat(all, number(0x177245385090, 48), number(uint64(sum), 32)), l
}

var sets = [][]string{
	nil, {"a"}, {"banana"}, {"banana", "banana"}, {"a", "b", "c", "dd", "eeeeeeeee"}, {strings.Repeat("x", 1800)}, {chance(30, 256, 1), chance(9, 2, 2), chance(31, 3, 3), "q"}, {"\x00", "\xff", "PMk1"},
}

func check(t *testing.T, a string, blocks []api.Block, rooms []int, text string) {
	t.Helper()
	if l, e := stream.Blocks(a); !slices.Equal(l, blocks) || e != api.OK {
		t.Fatalf("%v %d, want %v", l, e, blocks)
	}
	if l, e := stream.Rooms(a); !slices.Equal(l, rooms) || e != api.OK {
		t.Fatalf("%v %d, want %v", l, e, rooms)
	}
	if s, e := stream.Read(a); s != text || e != api.OK {
		t.Fatalf("%q %d, want %q", s, e, text)
	}
}

func checkWrong(t *testing.T, name, a string, want api.Errno) {
	t.Helper()
	if l, e := stream.Blocks(a); len(l) != 0 || e != want {
		t.Errorf("%s: blocks %v %d, want %d", name, l, e, want)
	}
	if l, e := stream.Rooms(a); len(l) != 0 || e != want {
		t.Errorf("%s: rooms %v %d, want %d", name, l, e, want)
	}
	if s, e := stream.Read(a); s != "" || e != want {
		t.Errorf("%s: read %q %d, want %d", name, s, e, want)
	}
}

func TestNoBlocks(t *testing.T) {
	for level := 1; level <= 9; level++ {
		a, e := stream.Write(level)
		want := "PMk" + string('0'+rune(level)) + "\x17\x72\x45\x38\x50\x90\x00\x00\x00\x00"
		if a != want || len(a) != 14 || e != api.OK {
			t.Errorf("%q %d", a, e)
		}
		check(t, a, nil, nil, "")
	}
}

func TestWriteAndRead(t *testing.T) {
	for _, texts := range sets {
		for level := 1; level <= 9; level++ {
			want, blocks := made(level, texts...)
			a, e := stream.Write(level, texts...)
			if a != want.Data || e != api.OK {
				t.Fatalf("%d %q: %x %d, want %x", level, texts, a, e, want.Data)
			}
			check(t, a, blocks, slices.Repeat([]int{40 * level}, len(texts)), strings.Join(texts, ""))
		}
	}
}

func TestSeveralStreams(t *testing.T) {
	var a, text string
	var blocks []api.Block
	var rooms []int
	for i, texts := range sets {
		level := 9 - i%5*2
		one, l := made(level, texts...)
		for _, b := range l {
			b.At += 8 * len(a)
			b.Next += 8 * len(a)
			blocks = append(blocks, b)
			rooms = append(rooms, 40*level)
		}
		a += one.Data
		text += strings.Join(texts, "")
		check(t, a, blocks, rooms, text)
	}
}

func TestWriteWrong(t *testing.T) {
	for i, x := range []struct {
		level int
		texts []string
		e     api.Errno
	}{
		{0, nil, api.ErrArg}, {10, nil, api.ErrArg}, {-1, nil, api.ErrArg}, {math.MaxInt, nil, api.ErrArg}, {math.MinInt, nil, api.ErrArg}, {0, []string{chance(999, 256, 1)}, api.ErrArg}, {10, []string{"a"}, api.ErrArg},
		{1, []string{""}, api.ErrArg}, {1, []string{"a", ""}, api.ErrArg}, {1, []string{chance(41, 256, 1)}, api.ErrLong}, {1, []string{"a", chance(41, 256, 1), ""}, api.ErrLong}, {1, []string{"a", "", chance(41, 256, 1)}, api.ErrArg}, {9, []string{chance(361, 256, 1)}, api.ErrLong}, {8, []string{chance(321, 256, 1)}, api.ErrLong},
	} {
		if a, e := stream.Write(x.level, x.texts...); a != "" || e != x.e {
			t.Error(i, a, e)
		}
	}
	for level := 1; level <= 9; level++ {
		if _, e := stream.Write(level, chance(40*level, 256, 4)); e != api.OK {
			t.Error(level, e)
		}
		if _, e := stream.Write(level, chance(40*level+1, 256, 4)); e != api.ErrLong {
			t.Error(level, e)
		}
	}
}

func TestCutOff(t *testing.T) {
	one, _ := stream.Write(1, "banana", "orange")
	for n := range len(one) {
		want := api.ErrShort
		if n == 0 {
			want = api.ErrForm
		}
		checkWrong(t, "cut", one[:n], want)
		if n > 0 {
			checkWrong(t, "cut behind a stream", one+one[:n], api.ErrShort)
		}
	}
}

func TestBehindTheEnd(t *testing.T) {
	a, _ := stream.Write(1, "banana")
	for _, x := range []struct {
		more string
		e    api.Errno
	}{{"\x00", api.ErrShort}, {"PMk", api.ErrShort}, {"PMk1", api.ErrShort}, {"PMk1\x17\x72\x45\x38\x50", api.ErrShort}, {"\x00\x00\x00\x00", api.ErrForm}, {"PMk0", api.ErrForm}, {"PMk:", api.ErrForm}, {"pmk1", api.ErrForm}, {" PMk1", api.ErrForm}} {
		checkWrong(t, x.more, a+x.more, x.e)
	}
}

func TestWrongHead(t *testing.T) {
	a, _ := stream.Write(9, chance(300, 256, 6))
	checkWrong(t, "empty", "", api.ErrForm)
	for _, s := range []string{"P", "abc", "PMk", "\x00"} {
		checkWrong(t, s, s, api.ErrShort)
	}
	for _, s := range []string{"PMk0", "PMk:", "PMk/", "PMK9", "pMk9", "Pmk9", "PM91", "9PMk", "BZh9", "PMk\x09", "PMk\x00", "PMk\xff", "PMi1"} {
		checkWrong(t, s, s, api.ErrForm)
		checkWrong(t, s+" ahead", s+a[4:], api.ErrForm)
	}
	checkWrong(t, "too little room", "PMk1"+a[4:], api.ErrLong)
	checkWrong(t, "too little room", "PMk7"+a[4:], api.ErrLong)
	if s, e := stream.Read("PMk8" + a[4:]); len(s) != 300 || e != api.OK {
		t.Error(len(s), e)
	}
}

func TestWrongBits(t *testing.T) {
	whole, blocks := made(2, "banana", "orange")
	for k := 32; k < 8*len(whole.Data); k++ {
		data := []byte(whole.Data)
		data[k/8] ^= 128 >> (k % 8)
		var want api.Errno
		switch {
		case k < 32+48, k >= blocks[0].Next && k < blocks[0].Next+48, k >= blocks[1].Next && k < blocks[1].Next+48:
			want = api.ErrForm
		case k < 32+80, k >= blocks[1].At && k < blocks[1].At+80, k >= blocks[1].Next+48 && k < blocks[1].Next+80:
			want = api.ErrSum
		case k >= blocks[1].Next+80:
			want = api.ErrForm
		default:
			// A bit of a table that no group has chosen may be another one: but the archive says the same then.
			if s, e := stream.Read(string(data)); e == api.OK && s != "bananaorange" {
				t.Error("another bit says another thing", k, s)
			}
			continue
		}
		checkWrong(t, "another bit", string(data), want)
	}
	if whole.N%8 == 0 {
		t.Error("nothing fills the last byte")
	}
}

func TestEndOfAStream(t *testing.T) {
	for pad := range 8 {
		// A text whose block ends so many bits ahead of a whole byte.
		for n := 1; ; n++ {
			text := chance(n%36+1, 9, uint64(n))
			whole, blocks := made(1, text)
			if (8-whole.N%8)%8 != pad {
				continue
			}
			check(t, whole.Data, blocks, []int{40}, text)
			body, _ := block.Encode(text, 40)
			sum := uint64(crc.Sum(text))
			end := func(sum uint64, filling int) string {
				return cat(head("PMk1"), body, number(0x177245385090, 48), number(sum, 32), number(uint64(filling), pad)).Data
			}
			for k := range 32 {
				checkWrong(t, "sum", end(sum^1<<k, 0), api.ErrSum)
			}
			for f := 1; f < 1<<pad; f++ {
				checkWrong(t, "filling", end(sum, f), api.ErrForm)
				checkWrong(t, "sum ahead of filling", end(sum^1, f), api.ErrSum)
			}
			break
		}
	}
}

func TestSumsInOrder(t *testing.T) {
	one, _ := block.Encode("banana", 40)
	two, _ := block.Encode("orange", 40)
	sum := crc.All(crc.Sum("banana"), crc.Sum("orange"))
	end := number(0x177245385090, 48)
	if s, e := stream.Read(cat(head("PMk1"), one, two, end, number(uint64(sum), 32)).Data); s != "bananaorange" || e != api.OK {
		t.Error(s, e)
	}
	checkWrong(t, "turned about", cat(head("PMk1"), two, one, end, number(uint64(sum), 32)).Data, api.ErrSum)
	checkWrong(t, "one lacking", cat(head("PMk1"), one, end, number(uint64(sum), 32)).Data, api.ErrSum)
	checkWrong(t, "sum without fold", cat(head("PMk1"), one, two, end, number(uint64(crc.Sum("banana")^crc.Sum("orange")), 32)).Data, api.ErrSum)
	// Each stream has a sum of its own.
	a, _ := stream.Write(1, "banana")
	b, _ := stream.Write(1, "orange")
	if s, e := stream.Read(a + b); s != "bananaorange" || e != api.OK {
		t.Error(s, e)
	}
}

func TestFirstErrorIsTold(t *testing.T) {
	one, _ := block.Encode("banana", 40)
	wrong := []byte(one.Data)
	wrong[7] ^= 1 // within the sum
	bad := api.Bits{Data: string(wrong), N: one.N}
	checkWrong(t, "sum of a block, and cut", cat(head("PMk1"), one, bad).Data, api.ErrSum)
	checkWrong(t, "no mark", cat(head("PMk1"), one, number(0, 48)).Data, api.ErrForm)
	checkWrong(t, "half a mark", cat(head("PMk1"), one, number(0, 39)).Data, api.ErrShort)
	checkWrong(t, "noughts", cat(head("PMk1"), number(0, 48)).Data, api.ErrForm)
	checkWrong(t, "another mark", cat(head("PMk1"), number(0x314159265358, 48)).Data, api.ErrForm)
}

func TestMemory(t *testing.T) {
	a, _ := stream.Write(3, "banana", "orange")
	want, _ := stream.Blocks(a)
	two, _ := stream.Blocks(a)
	r1, _ := stream.Rooms(a)
	r2, _ := stream.Rooms(a)
	for i := range two[:cap(two)] {
		two[:cap(two)][i] = api.Block{Text: "x"}
	}
	for i := range r2[:cap(r2)] {
		r2[:cap(r2)][i] = 9
	}
	if want[0].Text != "banana" || want[1].Text != "orange" || !slices.Equal(r1, []int{120, 120}) {
		t.Error("an answer is changed by another one")
	}
	texts := []string{"a", "b", "c"}
	stream.Write(1, texts[:2]...)
	if !slices.Equal(texts, []string{"a", "b", "c"}) {
		t.Error("changed", texts)
	}
}
