package shell_test

import (
	"encoding/hex"
	"fmt"
	"math"
	"strings"
	"testing"

	"pressmark/api"
	"pressmark/cache"
	"pressmark/index"
	"pressmark/pack"
	"pressmark/seek"
	"pressmark/shell"
	"pressmark/sidecar"
	"pressmark/stream"
)

// chance is n bytes, of so many kinds, that look as if by chance, the same ones each time.
func chance(n, kinds int, seed uint64) string {
	b := make([]byte, n)
	for i := range b {
		seed = seed*6364136223846793005 + 1442695040888963407
		b[i] = byte(int(seed>>33) % kinds * 255 / max(1, kinds-1))
	}
	return string(b)
}

func word(s string) string {
	if s == "" {
		return "-"
	}
	return hex.EncodeToString([]byte(s))
}

// runs holds what lines tell, one each, against what they are to tell.
func runs(t *testing.T, pairs ...string) {
	t.Helper()
	var script, want strings.Builder
	for i := 0; i < len(pairs); i += 2 {
		script.WriteString(pairs[i] + "\n")
		if pairs[i+1] != "" {
			want.WriteString(pairs[i+1] + "\n")
		}
	}
	for _, s := range []string{script.String(), strings.TrimSuffix(script.String(), "\n")} {
		if got, e := shell.Run(s); got != want.String() || e != api.OK {
			t.Errorf("%s\ntold:\n%s\nwant:\n%s(%d)", s, got, want.String(), e)
		}
	}
}

func TestHex(t *testing.T) {
	for b := range 256 {
		s := string([]byte{byte(b)})
		if got := shell.Hex(s); got != fmt.Sprintf("%02x", b) {
			t.Error(b, got)
		}
		if got, e := shell.Unhex(fmt.Sprintf("%02x", b)); got != s || e != api.OK {
			t.Error(b, got, e)
		}
	}
	for n := range 40 {
		s := chance(n, 256, uint64(n))
		if got := shell.Hex(s); got != hex.EncodeToString([]byte(s)) {
			t.Error(s, got)
		}
		if got, e := shell.Unhex(shell.Hex(s)); got != s || e != api.OK {
			t.Error(s, got, e)
		}
	}
	for _, s := range []string{"a", "abc", "A0", "0A", "aF", "0g", "g0", " 0", "0 ", "-", "--", "0x", "00 ", "0\n", "00000", "\xff\xff", "é0", "/0", ":0", "`0", "0`"} {
		if got, e := shell.Unhex(s); got != "" || e != api.ErrForm {
			t.Errorf("%q: %q %d", s, got, e)
		}
	}
	if got, e := shell.Unhex(""); got != "" || e != api.OK {
		t.Error(got, e)
	}
}

func TestExample(t *testing.T) {
	runs(t, "pack 1 6162", "ok", "open 1 1", "ok", "read 0 1 5", "reply 8 62")
}

func TestLines(t *testing.T) {
	for script, want := range map[string]string{
		"": "", "\n": "", "\n\n\n": "", "# a remark": "", "#": "", "#\n#bytes\n\n": "", "bytes": "bytes -\n", "bytes\n": "bytes -\n", "\nbytes\n\n": "bytes -\n", "bytes\nbytes": "bytes -\nbytes -\n", "bytes\n#\nshelf": "bytes -\nerror 5\n",
	} {
		if got, e := shell.Run(script); got != want || e != api.OK {
			t.Errorf("%q: %q %d", script, got, e)
		}
	}
}

func TestNoSuchLine(t *testing.T) {
	for _, line := range []string{
		" ", "  ", " bytes", "bytes ", "bytes  ", "bytes 0", "bytes -", "Bytes", "BYTES", "byte", "bytes\r", "\tbytes", " # remark", "bytes#", "-", "0", "error", "ok", "reply", "entry", "saved",
		"archive", "archive ", "archive  00", "archive 00 00", "archive 0", "archive 0A", "archive xy", "archive --", "archive -00", "sidecar", "sidecar a", "sidecar 000", "sidecar - -",
		"pack", "pack 1", "pack 00", "pack 1 ", "pack 01 00", "pack 1 0", "pack 1  00", "pack 00 1", "pack -1 00", "pack +1 00", "pack 1 00 00", "pack x 00", "pack - 00", "pack 1000000000 00", "pack 1 00,", "more", "more 1", "more 1 A0", "more 01 a0",
		"turn", "turn -1", "turn 00", "turn 01", "turn 1 2", "turn 0x1", "turn 1000000000", "turn 99999999999999999999", "turn 1.0", "turn -", "turn é", "cut", "cut a", "cut 1 1", "cut 000", "say 1", "say -", "index 0", "save -", "save 0",
		"open", "open 1", "open 1 1 1", "open 01 1", "open 1 01", "open -1 1", "openby 1", "openby 1 1 1", "openby 1 x", "read", "read 0", "read 0 0", "read 0 0 0 0", "read 00 0 0", "read 0 -1 0", "read 0 0 1000000000", "read a b c", "ask 0 0", "ask 0 0 01", "step", "step 0 0", "step -1", "step 1234567890", "shelf 0", "readers 0", "shelf -",
	} {
		if got, e := shell.Run(line); got != "error 200\n" || e != api.OK {
			t.Errorf("%q: %q %d", line, got, e)
		}
		want := "ok\nok\nerror 200\nbytes " + word(func() string { a, _ := pack.Pack("a", 1); return a }()) + "\nreaders 0\nshelf 0\n"
		if got, e := shell.Run("pack 1 61\nopen 1 1\n" + line + "\nbytes\nreaders\nshelf\n"); got != want || e != api.OK {
			t.Errorf("%q: %q %d", line, got, e)
		}
	}
}

func TestLimits(t *testing.T) {
	long := strings.Repeat("#"+strings.Repeat("x", 398)+"\n", 150)
	if len(long) != api.MaxScript {
		t.Fatal(len(long))
	}
	for i, x := range []struct {
		script, want string
		e            api.Errno
	}{
		{long, "", api.OK}, {long + "\n", "", api.ErrLong}, {long[1:] + "xx", "", api.ErrLong}, {"bytes\n" + long, "", api.ErrLong}, {long[:59994] + "\nbytes", "bytes -\n", api.OK},
		{strings.Repeat("bytes\n", 300), strings.Repeat("bytes -\n", 300), api.OK}, {strings.Repeat("bytes\n", 300) + "#", "", api.ErrLong}, {strings.Repeat("bytes\n", 299) + "bytes", strings.Repeat("bytes -\n", 300), api.OK}, {strings.Repeat("\n", 300), "", api.OK}, {strings.Repeat("\n", 301), "", api.ErrLong}, {strings.Repeat("bytes\n", 301), "", api.ErrLong}, {strings.Repeat("\n", 300) + "bytes", "", api.ErrLong},
	} {
		if got, e := shell.Run(x.script); got != x.want || e != x.e {
			t.Errorf("%d: %d bytes, %d", i, len(got), e)
		}
	}
}

func TestArchive(t *testing.T) {
	one, _ := pack.Pack("banana", 1)
	two, _ := pack.Pack(strings.Repeat("x", 900), 9)
	empty, _ := pack.Pack("", 4)
	turned := []byte(one)
	turned[0] ^= 128
	last := []byte(one)
	last[len(last)-1] ^= 1
	runs(t,
		"bytes", "bytes -", "archive 00ff10", "ok", "bytes", "bytes 00ff10", "archive -", "ok", "bytes", "bytes -",
		"pack 1 "+word("banana"), "ok", "bytes", "bytes "+word(one), "say", "say "+word("banana"),
		"pack 0 61", "error 1", "pack 10 61", "error 1", "pack 999999999 -", "error 1", "more 0 61", "error 1", "bytes", "bytes "+word(one),
		"turn 0", "ok", "bytes", "bytes "+word(string(turned)), "say", "error 3", "turn 0", "ok", fmt.Sprint("turn ", 8*len(one)), "error 1", "turn 999999999", "error 1", fmt.Sprint("turn ", 8*len(one)-1), "ok", "bytes", "bytes "+word(string(last)), fmt.Sprint("turn ", 8*len(one)-1), "ok", "bytes", "bytes "+word(one),
		"more 9 "+word(strings.Repeat("x", 900)), "ok", "bytes", "bytes "+word(one+two), "say", "say "+word("banana"+strings.Repeat("x", 900)),
		fmt.Sprint("cut ", len(one+two)+1), "error 1", fmt.Sprint("cut ", len(one+two)), "ok", fmt.Sprint("cut ", len(one+two)-1), "ok", "say", "error 2", fmt.Sprint("cut ", len(one)), "ok", "bytes", "bytes "+word(one), "cut 0", "ok", "bytes", "bytes -", "say", "error 3", "turn 0", "error 1", "cut 1", "error 1", "cut 0", "ok",
		"more 4 -", "ok", "bytes", "bytes "+word(empty), "say", "say -", "pack 4 -", "ok", "bytes", "bytes "+word(empty),
		"archive "+word(one+"\x00"), "ok", "say", "error 2",
	)
}

func TestIndexAndSave(t *testing.T) {
	text := chance(100, 256, 7)
	a, _ := pack.Streams(1, text, "bb")
	l, _ := index.Scan(a)
	s, _ := sidecar.Save(a, l)
	var told []string
	for _, x := range l {
		told = append(told, fmt.Sprint("entry ", x.At, " ", x.Room, " ", x.From, " ", x.Len, " ", x.Sum))
	}
	runs(t,
		"index", "error 3", "save", "error 3", "openby 1 1", "error 2", "archive "+word(a), "ok", "index", strings.Join(told, "\n")+"\nok", "openby 1 1", "error 2", "save", fmt.Sprint("saved ", len(s)), "openby 1 1", "ok", "read 0 99 9", "reply 8 "+word(text[99:]+"bb"),
		"archive "+word(a[:len(a)-1]), "ok", "index", "error 2", "save", "error 2", "openby 2 2", "error 7", "open 2 2", "error 2", "archive "+word(a), "ok", "openby 2 2", "ok", "readers", "readers 0 0",
		"sidecar -", "ok", "openby 1 1", "error 2", "sidecar "+word(s+"x"), "ok", "openby 1 1", "error 3", "sidecar "+word(s), "ok", "openby 1 1", "ok", "openby 0 1", "error 1", "openby 1 9", "error 1", "readers", "readers 0",
		"pack 3 -", "ok", "index", "ok", "save", "saved 20", "openby 64 8", "ok", "readers", "readers 0 0 0 0 0 0 0 0", "read 7 0 0", "reply 0 -", "read 7 0 1", "reply 8 -",
	)
}

func TestDesk(t *testing.T) {
	runs(t,
		"read 0 0 0", "error 5", "ask 0 0 0", "error 5", "step 0", "error 5", "shelf", "error 5", "readers", "error 5", "read 9 999999999 999999999", "error 5", "open 1 1", "error 3", "readers", "error 5",
		"pack 1 "+word("banana"), "ok", "open 0 1", "error 1", "open 65 1", "error 1", "open 1 0", "error 1", "open 1 9", "error 1", "shelf", "error 5", "open 2 2", "ok", "shelf", "shelf 0", "readers", "readers 0 0",
		"read 0 4 2", "reply 0 6e61", "shelf", "shelf 1 0", "read 1 4 3", "reply 8 6e61", "read 1 6 0", "reply 0 -", "read 1 7 0", "reply 8 -", "read 2 0 0", "error 5", "read 0 0 1048576", "error 1", "read 0 0 1048575", "reply 8 "+word("banana"), "shelf", "shelf 1 0",
		"ask 0 6 0", "reply 0 -", "ask 0 6 1", "reply 8 -", "ask 2 0 0", "error 5", "ask 0 0 1048576", "error 1", "ask 0 1 2", "ok", "readers", "readers 1 0", "ask 0 1 2", "error 9", "read 0 1 2", "error 9", "step 1", "ok", "step 2", "error 5", "step 0", "reply 0 616e", "readers", "readers 0 0", "step 0", "ok",
		// A desk keeps its own archive; and with an error it stays.
		"archive 00", "ok", "read 0 0 3", "reply 0 62616e", "open 1 1", "error 2", "readers", "readers 0 0", "pack 1 7a", "ok", "read 0 0 3", "reply 0 62616e", "open 1 1", "ok", "read 0 0 3", "reply 8 7a", "shelf", "shelf 1 0",
	)
}

func TestStepsBehindWhichAnArchiveIsChanged(t *testing.T) {
	text := chance(41, 256, 1)
	runs(t,
		"pack 1 "+word(text), "ok", "open 1 3", "ok", "ask 0 39 2", "ok", "ask 1 0 1", "ok", "step 0", "ok", "readers", "readers 2 1 0", "cut 0", "ok", "step 0", "ok", "readers", "readers 3 1 0", "shelf", "shelf 1", "step 0", "ok", "readers", "readers 1 1 0", "shelf", "shelf 1 0", "step 1", "reply 0 "+word(text[:1]), "step 0", "ok", "step 0", "ok", "step 0", "reply 0 "+word(text[39:]), "shelf", "shelf 2 1", "readers", "readers 0 0 0",
	)
}

func TestSayIsWhatReadsTell(t *testing.T) {
	// What is read by lines is what the calls below tell.
	text := chance(300, 256, 3) + strings.Repeat("y", 700)
	a, _ := pack.Pack(text, 2)
	d, _ := seek.Open(a, 2, 2)
	pairs := []string{"pack 2 " + word(text), "ok", "open 2 2", "ok"}
	for i := range 90 {
		off, n := i*47%1010, i*31%120
		p, next, e := seek.ReadAt(d, i%2, off, n)
		if e != api.OK {
			t.Fatal(e)
		}
		d = next
		pairs = append(pairs, fmt.Sprint("read ", i%2, " ", off, " ", n), fmt.Sprint("reply ", int(p.Code), " ", word(p.Text)))
		shelf := fmt.Sprint("shelf ", d.Decoded)
		for _, k := range cache.Order(d.Shelf) {
			shelf += fmt.Sprint(" ", k)
		}
		pairs = append(pairs, "shelf", shelf)
	}
	s, _ := stream.Read(a)
	runs(t, append(pairs, "say", "say "+word(s))...)
}

func TestLinesBehindChangeNothing(t *testing.T) {
	lines := []string{"pack 1 " + word("banana"), "bytes", "save", "open 1 1", "ask 0 1 2", "step 0", "more 2 00", "index", "readers", "step 0", "nothing", "cut 5", "say", "step 0", "shelf"}
	all, _ := shell.Run(strings.Join(lines, "\n"))
	for n := range len(lines) + 1 {
		got, e := shell.Run(strings.Join(lines[:n], "\n"))
		if !strings.HasPrefix(all, got) || e != api.OK {
			t.Error(n, got, e)
		}
	}
	again, _ := shell.Run(strings.Join(lines, "\n"))
	if again != all {
		t.Error("the same script tells another thing")
	}
}

func TestGreatNumbers(t *testing.T) {
	if math.MaxInt < 999999999 {
		t.Skip()
	}
	runs(t, "pack 1 "+word("banana"), "ok", "open 1 1", "ok", "read 0 999999999 5", "reply 8 -", "read 0 5 999999999", "error 1", "step 999999999", "error 5", "ask 0 999999999 0", "reply 8 -", "open 999999999 1", "error 1", "open 1 999999999", "error 1", "cut 999999999", "error 1")
}
