package chorus_test

import (
	"reflect"
	"slices"
	"testing"

	"chorus/api"
	"chorus/chorus"
	"chorus/wire"
)

func group(t *testing.T, procs, window, flight int) *chorus.Group {
	t.Helper()
	g, e := chorus.New(api.Config{Procs: procs, Window: window, Flight: flight})
	if g == nil || e != api.OK {
		t.Fatalf("P6: New(%d, %d, %d) = %v, %d", procs, window, flight, g, e)
	}
	return g
}

func wantErr(t *testing.T, what string, got, want api.Errno) {
	t.Helper()
	if got != want {
		t.Fatalf("%s: %d, want %d", what, got, want)
	}
}

func cast(t *testing.T, g *chorus.Group, p int, texts ...string) {
	t.Helper()
	for _, s := range texts {
		wantErr(t, "P9: Cast", g.Cast(p, s), api.OK)
	}
}

func tick(t *testing.T, g *chorus.Group, l ...int) {
	t.Helper()
	for _, p := range l {
		wantErr(t, "P11: Tick", g.Tick(p), api.OK)
	}
}

// deliver lets frames arrive, one after the other, each by its number at that time.
func deliver(t *testing.T, g *chorus.Group, l ...int) {
	t.Helper()
	for _, k := range l {
		wantErr(t, "P7: Deliver", g.Deliver(k), api.OK)
	}
}

func deliverAll(t *testing.T, g *chorus.Group) {
	t.Helper()
	for g.Flight() > 0 {
		deliver(t, g, 0)
	}
}

func dropAll(t *testing.T, g *chorus.Group) {
	t.Helper()
	for g.Flight() > 0 {
		wantErr(t, "P7: Drop", g.Drop(0), api.OK)
	}
}

func state(t *testing.T, g *chorus.Group, p int) api.Proc {
	t.Helper()
	x, e := g.Proc(p)
	wantErr(t, "P8: Proc", e, api.OK)
	return x
}

func wantRow(t *testing.T, g *chorus.Group, p int, row ...int) {
	t.Helper()
	if x := state(t, g, p); !slices.Equal(x.Row, row) {
		t.Fatalf("P9: the row of %d is %v, want %v", p, x.Row, row)
	}
}

func wantHeld(t *testing.T, g *chorus.Group, p, held int) {
	t.Helper()
	if x := state(t, g, p); x.Held != held {
		t.Fatalf("P9: process %d holds %d, want %d", p, x.Held, held)
	}
}

func wantEvents(t *testing.T, g *chorus.Group, p int, want ...api.Event) {
	t.Helper()
	l, e := g.Events(p)
	if e != api.OK || !slices.Equal(l, want) {
		t.Fatalf("P8: Events(%d) = %+v, %d, want %+v", p, l, e, want)
	}
}

func hasCast(from, seq int, text string) api.Event {
	return api.Event{Kind: api.ECast, From: from, Seq: seq, Text: text}
}

func hasGot(from, seq int, text string) api.Event {
	return api.Event{Kind: api.EDeliver, From: from, Seq: seq, Text: text}
}

func msg(sender, seq int, text string, time ...int) api.Msg {
	return api.Msg{Sender: sender, Seq: seq, Time: time, Text: text}
}

func data(from, to int, row []int, m api.Msg) api.Frame {
	return api.Frame{Kind: api.FData, From: from, To: to, Row: row, Msgs: []api.Msg{m}}
}

func gossip(from, to int, row ...int) api.Frame {
	return api.Frame{Kind: api.FGossip, From: from, To: to, Row: row}
}

func encode(t *testing.T, f api.Frame) string {
	t.Helper()
	s, e := wire.Encode(f)
	wantErr(t, "P4: Encode", e, api.OK)
	return s
}

func bytesOf(t *testing.T, g *chorus.Group, k int) string {
	t.Helper()
	s, e := g.Frame(k)
	wantErr(t, "P7: Frame", e, api.OK)
	return s
}

func frameOf(t *testing.T, g *chorus.Group, k int) api.Frame {
	t.Helper()
	f, e := wire.Decode(bytesOf(t, g, k))
	wantErr(t, "P7: a frame in flight", e, api.OK)
	return f
}

// wantFlight: just these frames are in flight.
func wantFlight(t *testing.T, g *chorus.Group, want ...api.Frame) {
	t.Helper()
	if n := g.Flight(); n != len(want) {
		t.Fatalf("P7: Flight = %d, want %d", n, len(want))
	}
	for k, f := range want {
		if bytesOf(t, g, k) != encode(t, f) {
			t.Fatalf("P7: frame %d is %+v, want %+v", k, frameOf(t, g, k), f)
		}
	}
}

// forge turns the bytes of the k-th frame in flight into those of another one of the same length.
func forge(t *testing.T, g *chorus.Group, k int, f api.Frame) {
	t.Helper()
	is, should := bytesOf(t, g, k), encode(t, f)
	if len(is) != len(should) {
		t.Fatalf("the test is wrong: %d bytes cannot become %d", len(is), len(should))
	}
	for at := range len(is) {
		if bits := is[at] ^ should[at]; bits != 0 {
			wantErr(t, "P7: Corrupt", g.Corrupt(k, at, int(bits)), api.OK)
		}
	}
}

// picture is all that a group tells.
type picture struct {
	frames []string
	procs  []api.Proc
	events [][]api.Event
}

func look(t *testing.T, g *chorus.Group) picture {
	t.Helper()
	var x picture
	for k := range g.Flight() {
		x.frames = append(x.frames, bytesOf(t, g, k))
	}
	for p := 0; ; p++ {
		s, e := g.Proc(p)
		if e != api.OK {
			return x
		}
		l, e := g.Events(p)
		wantErr(t, "P8: Events", e, api.OK)
		x.procs, x.events = append(x.procs, s), append(x.events, l)
	}
}

// wantSame: the group tells what it told when the picture was made.
func wantSame(t *testing.T, what string, g *chorus.Group, before picture) {
	t.Helper()
	if now := look(t, g); !reflect.DeepEqual(now, before) {
		t.Fatalf("%s: it has become %+v, was %+v", what, now, before)
	}
}
