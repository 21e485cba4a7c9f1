package shell_test

import (
	"fmt"
	"slices"
	"strings"
	"testing"

	"pressmark/api"
	"pressmark/code"
	"pressmark/index"
	"pressmark/pack"
	"pressmark/seek"
	"pressmark/shell"
	"pressmark/sidecar"
	"pressmark/stream"
	"pressmark/turns"
)

// The ten examples of the whole, by calls and by lines.
func TestTenExamples(t *testing.T) {
	unlike := ""
	for b := range 41 {
		unlike += string([]byte{byte(b)})
	}
	none, _ := pack.Pack("", 1)
	banana, _ := pack.Pack("banana", 1)
	two, _ := pack.Pack(unlike, 1)
	if s, e := stream.Read(none); len(none) != 14 || s != "" || e != api.OK {
		t.Error(1, s, e)
	}
	if l, e := stream.Blocks(banana); len(l) != 1 || e != api.OK {
		t.Error(2, l, e)
	}
	if last, origin := turns.Forward("banana"); last != "nnbaaa" || origin != 3 {
		t.Error(2, last, origin)
	}
	if l, e := stream.Blocks(two); len(l) != 2 || e != api.OK {
		t.Error(3, l, e)
	}
	runs(t, "archive "+word(banana), "ok", "open 1 1", "ok", "read 0 4 2", "reply 0 6e61", "read 0 4 3", "reply 8 6e61")
	runs(t, "archive "+word(two), "ok", "open 1 1", "ok", "read 0 38 3", "reply 0 262728", "shelf", "shelf 2 1")
	runs(t, "archive "+word(banana), "ok", "open 1 2", "ok", "ask 0 0 1", "ok", "ask 1 0 1", "ok", "step 0", "ok", "step 1", "ok", "step 0", "ok", "step 1", "ok", "step 0", "reply 0 62", "shelf", "shelf 2 0", "step 1", "reply 0 62", "shelf", "shelf 2 0")
	sum := 32 + 48
	runs(t, "archive "+word(banana[:len(banana)-1]), "ok", "say", "error 2", "archive "+word(banana+"b"), "ok", "say", "error 2", "archive "+word(banana), "ok", fmt.Sprint("turn ", sum), "ok", "say", "error 7")
	if e := code.Check([]int{1, 1, 1}); e != api.ErrOver {
		t.Error(8, e)
	}
	l, _ := index.Scan(two)
	l[1].At++
	s, _ := sidecar.Save(two, l)
	if _, e := sidecar.Load(two, s); e != api.ErrForm {
		t.Error(9, e)
	}
	runs(t, "archive "+word(banana), "ok", "open 1 1", "ok", "what is this", "error 200", "bytes", "bytes "+word(banana), "readers", "readers 0", "shelf", "shelf 0")
}

// What is packed, opened and read, by many readers in turns, is the text.
func TestAnyTextIsReadAtAnyPlace(t *testing.T) {
	for i, text := range []string{"", "a", "banana", chance(400, 256, 1), chance(700, 2, 2), strings.Repeat("x", 20000) + chance(90, 9, 3)} {
		level := i%9 + 1
		a, e := pack.Pack(text, level)
		if e != api.OK {
			t.Fatal(e)
		}
		l, _ := index.Scan(a)
		s, _ := sidecar.Save(a, l)
		if got, e := sidecar.Load(a, s); !slices.Equal(got, l) || e != api.OK {
			t.Fatal(i, e)
		}
		d, e := seek.OpenBy(a, s, 1+i, 3)
		if e != api.OK {
			t.Fatal(i, e)
		}
		for k := range 200 {
			off, n := k*k*31%(len(text)+3), k*17%200
			reply, next, e := seek.ReadAt(d, k%3, off, n)
			want := api.Reply{Text: text[min(off, len(text)):min(off+n, len(text))]}
			if off+n > len(text) {
				want.Code = api.ErrEnd
			}
			if reply != want || e != api.OK || len(next.Shelf.Held) > 1+i {
				t.Fatal(i, off, n, reply, e)
			}
			d = next
		}
	}
}

// Whatever is handed in, each script ends and tells the same for the same.
func TestAnyScriptEnds(t *testing.T) {
	words := []string{"archive", "sidecar", "pack", "more", "turn", "cut", "bytes", "say", "index", "save", "open", "openby", "read", "ask", "step", "shelf", "readers", "0", "1", "2", "40", "61", "-", "00ff", "", "#", "504d6b31"}
	seed := uint64(9)
	for range 300 {
		var script strings.Builder
		for range 30 {
			for k := range 4 {
				seed = seed*6364136223846793005 + 1442695040888963407
				if k > 0 && seed>>62 == 0 {
					break
				}
				if k > 0 {
					script.WriteByte(' ')
				}
				script.WriteString(words[int(seed>>33)%len(words)])
			}
			script.WriteByte('\n')
		}
		one, e := shell.Run(script.String())
		two, e2 := shell.Run(script.String())
		if one != two || e != api.OK || e2 != api.OK {
			t.Fatalf("%q: %q %q %d %d", script.String(), one, two, e, e2)
		}
	}
}
