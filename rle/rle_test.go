package rle_test

import (
	"math"
	"strings"
	"testing"

	"pressmark/api"
	"pressmark/rle"
)

// slowPack is Pack by its words, piece by piece.
func slowPack(s string) string {
	out := ""
	for len(s) > 0 {
		n := 1
		for n < 255 && n < len(s) && s[n] == s[0] {
			n++
		}
		if n < 4 {
			out += s[:n]
		} else {
			out += s[:4] + string([]byte{byte(n - 4)})
		}
		s = s[n:]
	}
	return out
}

// texts are some with runs of all kinds.
func texts() []string {
	l := []string{"", "a", "aaab", "aaaa", "aaaabbbb", "aaaabbbbb\x00\x00\x00\x00\x00", "ab", "abab", "\x00\x00\x00\x00", "\xff\xff\xff\xff\xff"}
	for _, n := range []int{1, 2, 3, 4, 5, 6, 8, 253, 254, 255, 256, 257, 258, 259, 260, 263, 509, 510, 511, 514, 600, 1024} {
		run := strings.Repeat("x", n)
		l = append(l, run, run+"y", "y"+run, run+strings.Repeat("\x04", n), "xy"+run+"yx")
	}
	seed := uint64(1)
	for n := range 60 {
		var b strings.Builder
		for range n {
			seed = seed*6364136223846793005 + 1442695040888963407
			b.WriteString(strings.Repeat(string([]byte{byte(seed>>60) & 3}), 1+int(seed>>40&7)))
		}
		l = append(l, b.String())
	}
	return l
}

func TestPackExamples(t *testing.T) {
	for _, x := range [][2]string{
		{"", ""}, {"a", "a"}, {"aaab", "aaab"}, {"aaaa", "aaaa\x00"}, {"aaaaaa", "aaaa\x02"}, {"aaaabaaa", "aaaa\x00baaa"},
		{strings.Repeat("a", 255), "aaaa\xfb"}, {strings.Repeat("a", 256), "aaaa\xfba"}, {strings.Repeat("a", 258), "aaaa\xfbaaa"},
		{strings.Repeat("a", 259), "aaaa\xfbaaaa\x00"}, {strings.Repeat("a", 300), "aaaa\xfbaaaa)"}, {"\x00\x00\x00\x00\x00", "\x00\x00\x00\x00\x01"},
	} {
		if got := rle.Pack(x[0]); got != x[1] {
			t.Errorf("%q: %q, want %q", x[0], got, x[1])
		}
	}
}

func TestPackAndBack(t *testing.T) {
	for _, s := range texts() {
		p := rle.Pack(s)
		if p != slowPack(s) {
			t.Errorf("%q: %q, want %q", s, p, slowPack(s))
		}
		if n := rle.Length(s); n != len(p) {
			t.Errorf("%q: %d, want %d", s, n, len(p))
		}
		if len(p) > (len(s)*5+3)/4 {
			t.Errorf("%q: more than five for four", s)
		}
		if got, e := rle.Unpack(p, len(s)); got != s || e != api.OK {
			t.Errorf("%q: %q %d", s, got, e)
		}
		if got, e := rle.Unpack(p, math.MaxInt); got != s || e != api.OK {
			t.Errorf("%q: %q %d", s, got, e)
		}
		if got, e := rle.Unpack(p, len(s)-1); got != "" || e != api.ErrLong {
			t.Errorf("%q: %q %d", s, got, e)
		}
	}
}

func TestUnpack(t *testing.T) {
	for _, x := range []struct {
		s    string
		most int
		want string
		e    api.Errno
	}{
		{"", 0, "", api.OK}, {"", -1, "", api.ErrLong}, {"", math.MinInt, "", api.ErrLong}, {"a", 0, "", api.ErrLong}, {"a", 1, "a", api.OK},
		{"aaa", 3, "aaa", api.OK}, {"aaaa", 100, "", api.ErrForm}, {"aaaa", 0, "", api.ErrForm}, {"aaaa", -1, "", api.ErrForm}, {"baaaa", 2, "", api.ErrForm},
		{"aaaa\x00", 4, "aaaa", api.OK}, {"aaaa\x00", 3, "", api.ErrLong}, {"aaaa\x01", 5, "aaaaa", api.OK}, {"aaaa\x01", 4, "", api.ErrLong},
		{"aaaaa", 101, strings.Repeat("a", 101), api.OK}, {"aaaaa", 100, "", api.ErrLong},
		{"aaaa\xff", 259, strings.Repeat("a", 259), api.OK}, {"aaaa\xff", 258, "", api.ErrLong}, {"aaaa\xfc", 256, strings.Repeat("a", 256), api.OK},
		// Behind a count the same byte begins a new run.
		{"aaaa\x00aaa", 7, "aaaaaaa", api.OK}, {"aaaa\x00aaaa", 99, "", api.ErrForm}, {"aaaa\x01aaaa\x02", 11, strings.Repeat("a", 11), api.OK},
		{"aaaaaaaa", 99999, strings.Repeat("a", 4+97+3), api.OK}, {"aaaaaaaaa", 99999, "", api.ErrForm},
		{"aaaa\x00\x00\x00\x00", 7, "aaaa\x00\x00\x00", api.OK}, {"\x00\x00\x00\x00\x00", 4, "\x00\x00\x00\x00", api.OK},
		{"\x01\x01\x01\x01\x01\x01\x01\x01\x01", 99, "", api.ErrForm}, {"\x00\x00\x00\x00\x00\x00\x00\x00\x00\x00", 8, "\x00\x00\x00\x00\x00\x00\x00\x00", api.OK},
		{"abaaab", 6, "abaaab", api.OK}, {"aabbaabb", 8, "aabbaabb", api.OK}, {"aaabaaaab", 106, "aaabaaaa" + strings.Repeat("a", 98), api.OK}, {"aaabaaaab", 105, "", api.ErrLong},
	} {
		if got, e := rle.Unpack(x.s, x.most); got != x.want || e != x.e {
			t.Errorf("%q %d: %q %d, want %q %d", x.s, x.most, got, e, x.want, x.e)
		}
	}
}

func TestUnpackTellsNoMoreThanMay(t *testing.T) {
	s := strings.Repeat("aaaa\xff", 100)
	if got, e := rle.Unpack(s, math.MaxInt); len(got) != 25900 || e != api.OK {
		t.Error(len(got), e)
	}
	if got, e := rle.Unpack(s+"aaaa", 3); got != "" || e != api.ErrForm {
		t.Error(len(got), e)
	}
}

func TestCut(t *testing.T) {
	for _, s := range texts() {
		whole := len(slowPack(s))
		for room := -2; room < min(whole+3, 40); room++ {
			want := 0
			for k := range len(s) + 1 {
				if len(slowPack(s[:k])) <= room {
					want = k
				}
			}
			if got := rle.Cut(s, room); got != want {
				t.Fatalf("%q %d: %d, want %d", s, room, got, want)
			}
		}
		for _, room := range []int{whole, whole + 1, math.MaxInt} {
			if got := rle.Cut(s, room); got != len(s) {
				t.Fatalf("%q %d: %d", s, room, got)
			}
		}
		if got := rle.Cut(s, math.MinInt); got != 0 {
			t.Fatalf("%q: %d", s, got)
		}
	}
}

func TestCutExamples(t *testing.T) {
	for _, x := range []struct {
		s          string
		room, want int
	}{
		{"aaaa", 4, 3}, {"aaaa", 5, 4}, {"aaaaaaaa", 5, 8}, {"aaaaaaaa", 4, 3}, {"aaaaaaaa", 3, 3}, {"aaaaaaaa", 2, 2}, {"aaaaaaaa", 0, 0}, {"aaaaaaaa", -1, 0},
		{strings.Repeat("a", 300), 10, 300}, {strings.Repeat("a", 300), 9, 258}, {strings.Repeat("a", 300), 5, 255}, {"bcaaaa", 6, 5}, {"bcaaaa", 7, 6}, {"", 5, 0},
	} {
		if got := rle.Cut(x.s, x.room); got != x.want {
			t.Errorf("%q %d: %d, want %d", x.s, x.room, got, x.want)
		}
	}
}

func TestLength(t *testing.T) {
	for s, want := range map[string]int{"": 0, "a": 1, "aaa": 3, "aaaa": 5, "aaaaa": 5, strings.Repeat("b", 255): 5, strings.Repeat("b", 256): 6, strings.Repeat("b", 259): 10} {
		if got := rle.Length(s); got != want {
			t.Errorf("%q: %d, want %d", s, got, want)
		}
	}
}

func TestCutOfALongTextIsQuick(t *testing.T) {
	s := strings.Repeat("abcdefgh", 1<<20)
	for range 2000 {
		if got := rle.Cut(s, 40); got != 40 {
			t.Fatal(got)
		}
	}
}
