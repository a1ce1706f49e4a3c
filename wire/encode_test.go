package wire_test

import (
	"fmt"
	"math"
	"reflect"
	"strings"
	"testing"

	"chorus/api"
	"chorus/wire"
)

func TestEncodeExample(t *testing.T) {
	s := mustEncode(t, api.Frame{Kind: api.FGossip, From: 0, To: 1, View: 2, Row: []int{3, 4}})
	want := sealed(2, 0, 1, 0, 0, 0, 0, 2, 0, 0, 0, 0, 0, 0, 0, 0, 2, 3, 4, 0, 0)
	if s != want || len(s) != 25 {
		t.Errorf("P4: example 1: %x, want %x", s, want)
	}
}

func TestEncodeOrderOfFields(t *testing.T) {
	if s, want := mustEncode(t, full()), sealed(fullBody()...); s != want {
		t.Errorf("P4: %x, want %x", s, want)
	}
}

func TestEncodeKinds(t *testing.T) {
	for i, kind := range []int{api.FData, api.FGossip, api.FFlush, api.FState, api.FAccept, api.FAccepted, api.FInstall} {
		want := sealed(byte(i+1), 0, 0, 0, 0, 0, 0, 0, 0, 0, 0, 0, 0, 0, 0, 0, 0, 0, 0)
		if s := mustEncode(t, api.Frame{Kind: kind}); s != want {
			t.Errorf("P4: kind %d: %x, want %x", kind, s, want)
		}
	}
}

func TestEncodeEmptyListsAsNil(t *testing.T) {
	a := mustEncode(t, api.Frame{Kind: 1, Msgs: []api.Msg{{Seq: 1}}})
	b := mustEncode(t, api.Frame{Kind: 1, Row: []int{}, Cut: []int{}, Msgs: []api.Msg{{Seq: 1, Time: []int{}}}})
	if a != b {
		t.Errorf("P4: nil lists: %x, empty ones: %x", a, b)
	}
}

func TestEncodeLargest(t *testing.T) {
	s := mustEncode(t, largest())
	if want := 16 + 7 + 7 + 1 + 200*(2+7+17) + 4; len(s) != want {
		t.Errorf("P4: the largest frame has %d bytes, want %d", len(s), want)
	}
	wantSame(t, "P5: the largest frame", mustDecode(t, s), largest())
}

// numbers are all places of a frame at which a number stands, with the bounds of P4 and where its bytes are in fullBody.
var numbers = []struct {
	name      string
	low, high int
	set       func(f *api.Frame, n int)
	at, width int
}{
	{"Kind", 1, 7, func(f *api.Frame, n int) { f.Kind = n }, 0, 1},
	{"From", 0, 5, func(f *api.Frame, n int) { f.From = n }, 1, 1},
	{"To", 0, 5, func(f *api.Frame, n int) { f.To = n }, 2, 1},
	{"Members", 0, 63, func(f *api.Frame, n int) { f.Members = n }, 3, 1},
	{"View", 0, 1<<31 - 1, func(f *api.Frame, n int) { f.View = n }, 4, 4},
	{"Ballot", 0, 1<<31 - 1, func(f *api.Frame, n int) { f.Ballot = n }, 8, 4},
	{"Voted", 0, 1<<31 - 1, func(f *api.Frame, n int) { f.Voted = n }, 12, 4},
	{"Row's first", 0, 20, func(f *api.Frame, n int) { f.Row[0] = n }, 17, 1},
	{"Row's last", 0, 20, func(f *api.Frame, n int) { f.Row[2] = n }, 19, 1},
	{"Cut's first", 0, 20, func(f *api.Frame, n int) { f.Cut[0] = n }, 21, 1},
	{"Cut's last", 0, 20, func(f *api.Frame, n int) { f.Cut[1] = n }, 22, 1},
	{"first Sender", 0, 5, func(f *api.Frame, n int) { f.Msgs[0].Sender = n }, 24, 1},
	{"first Seq", 1, 20, func(f *api.Frame, n int) { f.Msgs[0].Seq = n }, 25, 1},
	{"Time's first", 0, 20, func(f *api.Frame, n int) { f.Msgs[0].Time[0] = n }, 27, 1},
	{"Time's last", 0, 20, func(f *api.Frame, n int) { f.Msgs[0].Time[2] = n }, 29, 1},
	{"last Sender", 0, 5, func(f *api.Frame, n int) { f.Msgs[1].Sender = n }, 34, 1},
	{"last Seq", 1, 20, func(f *api.Frame, n int) { f.Msgs[1].Seq = n }, 35, 1},
}

func TestEncodeBoundsOfNumbers(t *testing.T) {
	for _, c := range numbers {
		for _, n := range []int{c.low, c.low + 1, c.high - 1, c.high} {
			f := full()
			c.set(&f, n)
			wantSame(t, fmt.Sprintf("P4, P5: %s %d", c.name, n), mustDecode(t, mustEncode(t, f)), f)
		}
		for _, n := range []int{c.low - 1, c.high + 1, -c.high, c.high + 256, c.low + 256, c.low + 1<<32, c.low - 1<<32, math.MinInt, math.MaxInt} {
			if c.low <= n && n <= c.high {
				continue
			}
			f := full()
			c.set(&f, n)
			wantRefused(t, fmt.Sprintf("P4: %s %d", c.name, n), f)
		}
	}
}

func wantRefused(t *testing.T, what string, f api.Frame) {
	t.Helper()
	if s, e := wire.Encode(f); s != "" || e != api.ErrFrame {
		t.Errorf("%s: Encode = %x, %d, want nothing and ErrFrame", what, s, e)
	}
}

func TestEncodeBoundsOfLists(t *testing.T) {
	for name, set := range map[string]func(f *api.Frame, l []int){
		"Row":        func(f *api.Frame, l []int) { f.Row = l },
		"Cut":        func(f *api.Frame, l []int) { f.Cut = l },
		"first Time": func(f *api.Frame, l []int) { f.Msgs[0].Time = l },
		"last Time":  func(f *api.Frame, l []int) { f.Msgs[1].Time = l },
	} {
		for _, n := range []int{0, 1, 5, 6} {
			f := full()
			set(&f, make([]int, n))
			wantSame(t, fmt.Sprintf("P4, P5: %s of %d", name, n), mustDecode(t, mustEncode(t, f)), f)
		}
		for _, n := range []int{7, 255, 256, 262, 100000} {
			f := full()
			set(&f, make([]int, n))
			wantRefused(t, fmt.Sprintf("P4: %s of %d", name, n), f)
		}
	}
}

func TestEncodeBoundsOfMsgs(t *testing.T) {
	msgs := func(n int) []api.Msg {
		l := make([]api.Msg, n)
		for i := range l {
			l[i].Seq = 1 + i%20
		}
		return l
	}
	for _, n := range []int{0, 1, 199, 200} {
		f := api.Frame{Kind: 5, Msgs: msgs(n)}
		wantSame(t, fmt.Sprintf("P4, P5: %d messages", n), mustDecode(t, mustEncode(t, f)), f)
	}
	for _, n := range []int{201, 255, 256, 257, 456} {
		wantRefused(t, fmt.Sprintf("P4: %d messages", n), api.Frame{Kind: 5, Msgs: msgs(n)})
	}
}

func TestEncodeBoundsOfTexts(t *testing.T) {
	for _, text := range []string{"", "x", strings.Repeat("x", 15), strings.Repeat("x", 16), strings.Repeat("ä", 8), strings.Repeat("\xff\x00", 8)} {
		for i := range 2 {
			f := full()
			f.Msgs[i].Text = text
			wantSame(t, fmt.Sprintf("P4, P5: text %q", text), mustDecode(t, mustEncode(t, f)), f)
		}
	}
	for _, text := range []string{strings.Repeat("x", 17), strings.Repeat("ä", 9), strings.Repeat("x", 256), strings.Repeat("x", 272), strings.Repeat("x", 1<<20)} {
		for i := range 2 {
			f := full()
			f.Msgs[i].Text = text
			wantRefused(t, fmt.Sprintf("P4: text of %d bytes", len(text)), f)
		}
	}
}

// roomy is full with spare room behind each list, and all the room there is.
func roomy() (api.Frame, [][]int) {
	f := full()
	var rooms [][]int
	for _, l := range []*[]int{&f.Row, &f.Cut, &f.Msgs[0].Time} {
		room := make([]int, 12)
		for i := range room {
			room[i] = 7
		}
		copy(room, *l)
		*l = room[:len(*l)]
		rooms = append(rooms, room)
	}
	f.Msgs = append(make([]api.Msg, 0, 9), f.Msgs...)
	return f, rooms
}

func TestEncodeWritesIntoNothing(t *testing.T) {
	f, rooms := roomy()
	_, before := roomy()
	mustEncode(t, f)
	wantSame(t, "P2: what was handed in", f, full())
	if !reflect.DeepEqual(rooms, before) {
		t.Errorf("P2: the lists that were handed in have become %v, were %v", rooms, before)
	}
	for _, m := range f.Msgs[len(f.Msgs):cap(f.Msgs)] {
		if !reflect.DeepEqual(m, api.Msg{}) {
			t.Errorf("P2: Encode has written %+v behind the messages", m)
		}
	}
}

func TestEncodeKeepsNothing(t *testing.T) {
	f := full()
	s := mustEncode(t, f)
	f.Row[0], f.Cut[0], f.Msgs[0].Time[0], f.Msgs[0].Seq = 9, 9, 9, 9
	if want := sealed(fullBody()...); s != want {
		t.Errorf("P2: the bytes have become %x, were %x", s, want)
	}
	if again := mustEncode(t, full()); again != s {
		t.Errorf("P4: the same frame is %x, then %x", s, again)
	}
}
