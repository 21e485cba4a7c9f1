package pack_test

import (
	"encoding/hex"
	"math"
	"slices"
	"strings"
	"testing"

	"pressmark/api"
	"pressmark/pack"
	"pressmark/rle"
	"pressmark/stream"
)

// chance is n bytes, of so many kinds, that look as if by chance, the same ones each time.
func chance(n, kinds int, seed uint64) string {
	b := make([]byte, n)
	for i := range b {
		seed = seed*6364136223846793005 + 1442695040888963407
		b[i] = byte(int(seed>>33) % kinds * 255 / max(1, kinds-1))
	}
	return string(b)
}

func every() string {
	b := make([]byte, 256)
	for i := range b {
		b[i] = byte(i)
	}
	return string(b)
}

func texts() []string {
	l := []string{"", "a", "banana", every(), every()[:41], every()[:40], strings.Repeat("a", 300), strings.Repeat("a", 20000), strings.Repeat("aaaab", 300), strings.Repeat("aaaa", 9) + "bcdaaaa", chance(5000, 256, 1), chance(5000, 2, 2), chance(3000, 1, 3) + chance(100, 3, 4)}
	for n := 30; n < 60; n++ {
		l = append(l, chance(n, 2, uint64(n)), chance(n, 256, uint64(n)), every()[:n-5]+strings.Repeat("z", n))
	}
	return l
}

func TestExamples(t *testing.T) {
	if l, e := pack.Pieces(strings.Repeat("a", 300), 1); len(l) != 1 || e != api.OK {
		t.Error(l, e)
	}
	if l, e := pack.Pieces(every()[:41], 1); !slices.Equal(l, []string{every()[:40], every()[40:41]}) || e != api.OK {
		t.Error(l, e)
	}
	a, e := pack.Pack(every()[:41], 1)
	if l, _ := stream.Blocks(a); len(l) != 2 || e != api.OK {
		t.Error(l, e)
	}
	// A count has no room of its own: three of a run stay, the fourth one goes on.
	x := every()[:37] + "zzzz"
	if l, e := pack.Pieces(x, 1); !slices.Equal(l, []string{x[:40], "z"}) || e != api.OK {
		t.Error(l, e)
	}
}

func TestPieces(t *testing.T) {
	for _, x := range texts() {
		for level := 1; level <= 9; level++ {
			l, e := pack.Pieces(x, level)
			if e != api.OK || strings.Join(l, "") != x {
				t.Fatal(level, x, l, e)
			}
			rest := x
			for _, p := range l {
				if p == "" || len(p) != rle.Cut(rest, 40*level) || len(rle.Pack(p)) > 40*level {
					t.Fatal(level, x, l)
				}
				if len(p) < len(rest) && len(rle.Pack(rest[:len(p)+1])) <= 40*level {
					t.Fatal("could be longer", level, x, p)
				}
				rest = rest[len(p):]
			}
		}
	}
	if l, e := pack.Pieces("", 5); len(l) != 0 || e != api.OK {
		t.Error(l, e)
	}
}

func TestPack(t *testing.T) {
	for _, x := range texts() {
		for level := 1; level <= 9; level++ {
			l, _ := pack.Pieces(x, level)
			want, _ := stream.Write(level, l...)
			a, e := pack.Pack(x, level)
			if a != want || e != api.OK {
				t.Fatal(level, x, e)
			}
			if s, e := stream.Read(a); s != x || e != api.OK {
				t.Fatal(level, x, s, e)
			}
			if rooms, _ := stream.Rooms(a); !slices.Equal(rooms, slices.Repeat([]int{40 * level}, len(l))) {
				t.Fatal(level, x, rooms)
			}
		}
	}
}

// What is packed is fixed bit by bit: these were worked out by the chapters alone.
func TestPackBitByBit(t *testing.T) {
	for _, x := range []struct {
		text  string
		level int
		want  string
	}{
		{"banana", 1, "504d6b31314159265359efb6ec010003020060024000431ea0cc2178bb9229c284877db76008"},
		{strings.Repeat("a", 300), 1, "504d6b31314159265359a74ae11b00052201004040000010400041547a0cc795185dc914e142429d2b846c"},
		{every()[:41], 1, "504d6b31314159265359546b78ad0000e000ffffffffff00400140600000c0000030000060000052ebf0c72cf4d76df8e7aefcf7efc0110c8531d0952d8d73e1194e953141592653590fdc1b13000020000080400042308d05dc914e142429c2ba9240"},
		{"the quick brown fox jumps over the lazy dog, and the dog sleeps on and on", 2, "504d6b32314159265359ff8690390041230080087fffffe04001d554429e8868d34c007a8229e243000003d1cc0b0ab3449c772584c63e12144d6cca2c19f347517ab91424817471bb7282c680ce4034f4ed8bb9229c28487fc3481c80"},
		{strings.Repeat("\x00\xff", 20) + strings.Repeat("\x80", 9), 9, "504d6b39314159265359c935b2f50000808184008000000140008121a0906ac8085421c5dc914e1424324d6cbd40"},
	} {
		a, e := pack.Pack(x.text, x.level)
		if hex.EncodeToString([]byte(a)) != x.want || e != api.OK {
			t.Errorf("%q %d: %x %d", x.text, x.level, a, e)
		}
	}
}

func TestStreams(t *testing.T) {
	parts := texts()
	for first := 1; first <= 9; first++ {
		for _, n := range []int{1, 2, 9, 10, 23} {
			want, level := "", first
			for _, x := range parts[:n] {
				a, _ := pack.Pack(x, level)
				want += a
				level++
				if level == 10 {
					level = 1
				}
			}
			a, e := pack.Streams(first, parts[:n]...)
			if a != want || e != api.OK {
				t.Fatal(first, n, e)
			}
			if s, e := stream.Read(a); s != strings.Join(parts[:n], "") || e != api.OK {
				t.Fatal(first, n, e)
			}
		}
	}
	if a, e := pack.Streams(9, "", ""); a != "PMk9\x17\x72\x45\x38\x50\x90\x00\x00\x00\x00PMk1\x17\x72\x45\x38\x50\x90\x00\x00\x00\x00" || e != api.OK {
		t.Errorf("%q %d", a, e)
	}
}

func TestWrong(t *testing.T) {
	for _, level := range []int{0, 10, -1, math.MaxInt, math.MinInt, 1 << 32} {
		for _, x := range []string{"", "banana"} {
			if l, e := pack.Pieces(x, level); len(l) != 0 || e != api.ErrArg {
				t.Error(level, l, e)
			}
			if a, e := pack.Pack(x, level); a != "" || e != api.ErrArg {
				t.Error(level, a, e)
			}
			if a, e := pack.Streams(level, x); a != "" || e != api.ErrArg {
				t.Error(level, a, e)
			}
		}
		if a, e := pack.Streams(level); a != "" || e != api.ErrArg {
			t.Error(level, a, e)
		}
	}
	for level := 1; level <= 9; level++ {
		if a, e := pack.Streams(level); a != "" || e != api.ErrArg {
			t.Error(level, a, e)
		}
	}
}

func TestMemory(t *testing.T) {
	one, _ := pack.Pieces(every(), 1)
	want := slices.Clone(one)
	two, _ := pack.Pieces(every(), 1)
	for i := range two[:cap(two)] {
		two[:cap(two)][i] = "x"
	}
	if !slices.Equal(one, want) {
		t.Error("an answer is changed by another one")
	}
	parts := []string{"a", "b", "c"}
	pack.Streams(1, parts[:2]...)
	if !slices.Equal(parts, []string{"a", "b", "c"}) {
		t.Error("changed", parts)
	}
}

func TestLongText(t *testing.T) {
	x := chance(100000, 256, 8) + strings.Repeat("b", 100000)
	a, e := pack.Pack(x, 9)
	if s, e2 := stream.Read(a); s != x || e != api.OK || e2 != api.OK {
		t.Error(e, e2)
	}
}
