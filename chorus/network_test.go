package chorus_test

import (
	"math"
	"strings"
	"testing"

	"chorus/api"
)

func TestFlightIsInOrderOfSending(t *testing.T) {
	g := group(t, 3, 4, 100)
	cast(t, g, 1, "a")
	cast(t, g, 0, "b")
	a, b := msg(1, 1, "a", 0, 1, 0), msg(0, 1, "b", 1, 0, 0)
	wantFlight(t, g,
		data(1, 0, []int{0, 1, 0}, a), data(1, 2, []int{0, 1, 0}, a),
		data(0, 1, []int{1, 0, 0}, b), data(0, 2, []int{1, 0, 0}, b))
	wantErr(t, "P7: Drop", g.Drop(1), api.OK)
	wantErr(t, "P7: Copy", g.Copy(0), api.OK)
	wantFlight(t, g,
		data(1, 0, []int{0, 1, 0}, a),
		data(0, 1, []int{1, 0, 0}, b), data(0, 2, []int{1, 0, 0}, b),
		data(1, 0, []int{0, 1, 0}, a))
	deliver(t, g, 1)
	wantEvents(t, g, 1, hasCast(1, 1, "a"), hasGot(0, 1, "b"))
	wantFlight(t, g, data(1, 0, []int{0, 1, 0}, a), data(0, 2, []int{1, 0, 0}, b), data(1, 0, []int{0, 1, 0}, a))
}

func TestFullNetworkLoses(t *testing.T) {
	g := group(t, 3, 4, 3)
	cast(t, g, 0, "a", "b")
	a, b := msg(0, 1, "a", 1, 0, 0), msg(0, 2, "b", 2, 0, 0)
	full := []api.Frame{data(0, 1, []int{1, 0, 0}, a), data(0, 2, []int{1, 0, 0}, a), data(0, 1, []int{2, 0, 0}, b)}
	wantFlight(t, g, full...)
	wantErr(t, "P7: Copy in a full network", g.Copy(1), api.OK)
	wantFlight(t, g, full...)
	wantErr(t, "P9: Cast in a full network", g.Cast(1, "c"), api.OK)
	wantEvents(t, g, 1, hasCast(1, 1, "c"))
	tick(t, g, 2)
	wantFlight(t, g, full...)
	wantErr(t, "P7: Drop", g.Drop(0), api.OK)
	tick(t, g, 2)
	wantFlight(t, g, full[1], full[2], gossip(2, 0, 0, 0, 0))
}

func TestLargestFlight(t *testing.T) {
	g := group(t, 2, 1, api.MaxFlight)
	cast(t, g, 0, "a")
	for range api.MaxFlight - 1 {
		wantErr(t, "P7: Copy", g.Copy(0), api.OK)
	}
	for range 2 {
		if g.Flight() != 4000 {
			t.Fatalf("P7: Flight = %d, want 4000", g.Flight())
		}
		wantErr(t, "P7: Copy", g.Copy(3999), api.OK)
	}
	deliver(t, g, 3999, 3998)
	wantEvents(t, g, 1, hasGot(0, 1, "a"))
	_, e := g.Frame(3998)
	wantErr(t, "P7: Frame", e, api.ErrNone)
}

func TestNoSuchFrame(t *testing.T) {
	g := group(t, 3, 4, 9)
	cast(t, g, 0, "a")
	before := look(t, g)
	for _, k := range []int{-1, 2, 3, math.MinInt, math.MaxInt} {
		s, e := g.Frame(k)
		if s != "" || e != api.ErrNone {
			t.Errorf("P7: Frame(%d) = %q, %d", k, s, e)
		}
		wantErr(t, "P7: Drop", g.Drop(k), api.ErrNone)
		wantErr(t, "P7: Copy", g.Copy(k), api.ErrNone)
		wantErr(t, "P7: Deliver", g.Deliver(k), api.ErrNone)
		wantErr(t, "P7: Corrupt", g.Corrupt(k, 0, 1), api.ErrNone)
		wantErr(t, "P7: Corrupt, ErrNone ahead of ErrLarge", g.Corrupt(k, -1, 256), api.ErrNone)
		wantSame(t, "P1: with an error", g, before)
	}
}

func TestCorrupt(t *testing.T) {
	g := group(t, 3, 4, 9)
	cast(t, g, 0, "a")
	first, second := bytesOf(t, g, 0), bytesOf(t, g, 1)
	for _, at := range []int{0, 7, len(second) - 1} {
		for _, bits := range []int{1, 128, 255} {
			wantErr(t, "P7: Corrupt", g.Corrupt(1, at, bits), api.OK)
			b := []byte(second)
			b[at] ^= byte(bits)
			if is := bytesOf(t, g, 1); is != string(b) {
				t.Errorf("P7: Corrupt(1, %d, %d) of %x gives %x", at, bits, second, is)
			}
			wantErr(t, "P7: Corrupt", g.Corrupt(1, at, bits), api.OK)
		}
	}
	before := look(t, g)
	for _, c := range [][2]int{{-1, 1}, {len(second), 1}, {math.MinInt, 1}, {math.MaxInt, 1}, {0, 0}, {0, 256}, {0, -1}, {0, math.MaxInt}, {-1, 0}} {
		wantErr(t, "P7: Corrupt", g.Corrupt(1, c[0], c[1]), api.ErrLarge)
		wantSame(t, "P1: with an error", g, before)
	}
	if bytesOf(t, g, 0) != first {
		t.Errorf("P7: Corrupt has spoilt another frame")
	}
}

func TestSpoiltFramesAreIgnored(t *testing.T) {
	g := group(t, 3, 4, 9)
	cast(t, g, 0, "a")
	before := look(t, g)
	for at := range len(bytesOf(t, g, 0)) {
		for _, bits := range []int{1, 16, 255} {
			wantErr(t, "P7: Copy", g.Copy(0), api.OK)
			wantErr(t, "P7: Corrupt", g.Corrupt(2, at, bits), api.OK)
			deliver(t, g, 2)
			wantSame(t, "P7: behind a spoilt frame", g, before)
		}
	}
	deliver(t, g, 0)
	wantEvents(t, g, 1, hasGot(0, 1, "a"))
}

func TestFramesGoToWhomTheyWereSent(t *testing.T) {
	g := group(t, 3, 4, 9)
	cast(t, g, 0, "a")
	a := msg(0, 1, "a", 1, 0, 0)
	forge(t, g, 0, data(0, 2, []int{1, 0, 0}, a))
	wantErr(t, "P7: Copy", g.Copy(0), api.OK)
	deliver(t, g, 0)
	wantEvents(t, g, 1)
	wantEvents(t, g, 2)
	forge(t, g, 1, data(0, 1, []int{1, 0, 0}, a))
	deliver(t, g, 1)
	wantEvents(t, g, 1, hasGot(0, 1, "a"))
	wantEvents(t, g, 2)
}

func TestUnfitFramesAreIgnored(t *testing.T) {
	// All frames here have the length of the one that is cast: what a list has more, the text has less.
	x := func(n int) string { return strings.Repeat("x", n) }
	row, m := []int{1, 0, 0}, msg(0, 1, x(8), 1, 0, 0)
	for what, f := range map[string]api.Frame{
		"to another":                   data(0, 2, row, m),
		"to none of the group":         data(0, 3, row, m),
		"from itself":                  data(1, 1, row, m),
		"from none of the group":       data(3, 1, row, m),
		"members not of the group":     {Kind: api.FData, To: 1, Members: 8, Row: row, Msgs: []api.Msg{m}},
		"a row too long":               data(0, 1, []int{1, 0, 0, 0}, msg(0, 1, x(7), 1, 0, 0)),
		"a row too short":              data(0, 1, []int{1, 0}, msg(0, 1, x(9), 1, 0, 0)),
		"no row":                       data(0, 1, nil, msg(0, 1, x(11), 1, 0, 0)),
		"a cut too short":              {Kind: api.FData, To: 1, Row: row, Cut: []int{1}, Msgs: []api.Msg{msg(0, 1, x(7), 1, 0, 0)}},
		"a cut too long":               {Kind: api.FData, To: 1, Row: row, Cut: []int{1, 0, 0, 0}, Msgs: []api.Msg{msg(0, 1, x(4), 1, 0, 0)}},
		"a sender not of the group":    data(0, 1, row, msg(3, 1, x(8), 1, 1, 1)),
		"a time too short":             data(0, 1, row, msg(0, 1, x(9), 1, 0)),
		"a time too long":              data(0, 1, row, msg(0, 1, x(7), 1, 0, 0, 0)),
		"no time":                      data(0, 1, row, msg(0, 1, x(11))),
		"a time that is not the seq":   data(0, 1, row, msg(0, 1, x(8), 2, 0, 0)),
		"the time of another":          data(0, 1, row, msg(0, 1, x(8), 0, 1, 0)),
		"data of two messages":         {Kind: api.FData, To: 1, Row: row, Msgs: []api.Msg{msg(0, 1, x(1), 1, 0, 0), msg(0, 2, "", 2, 0, 0)}},
		"a gossip without a row":       {Kind: api.FGossip, To: 1, Ballot: 9, Cut: row, Msgs: []api.Msg{m}},
		"a gossip with an unfit time":  {Kind: api.FGossip, To: 1, Ballot: 9, Row: row, Msgs: []api.Msg{msg(0, 1, x(8), 2, 0, 0)}},
		"a gossip to another":          {Kind: api.FGossip, To: 0, Ballot: 9, Row: row, Msgs: []api.Msg{m}},
		"a gossip from itself":         {Kind: api.FGossip, From: 1, To: 1, Ballot: 9, Row: row, Msgs: []api.Msg{m}},
		"a gossip with a row too long": {Kind: api.FGossip, To: 1, Ballot: 9, Row: []int{1, 0, 0, 0}, Msgs: []api.Msg{msg(0, 1, x(7), 1, 0, 0)}},
	} {
		t.Run(what, func(t *testing.T) {
			g := group(t, 3, 4, 9)
			cast(t, g, 0, m.Text)
			cast(t, g, 1, "b")
			forge(t, g, 0, f)
			before := look(t, g)
			before.frames = before.frames[1:]
			deliver(t, g, 0)
			wantSame(t, "P7: not fit", g, before)
			dropAll(t, g)
			tick(t, g, 1)
			wantFlight(t, g,
				gossip(1, 0, 0, 1, 0), data(1, 0, []int{0, 1, 0}, msg(1, 1, "b", 0, 1, 0)),
				gossip(1, 2, 0, 1, 0), data(1, 2, []int{0, 1, 0}, msg(1, 1, "b", 0, 1, 0)))
		})
	}
}

func TestWhatAKindDoesNotNeedIsNotAsked(t *testing.T) {
	g := group(t, 3, 4, 9)
	cast(t, g, 0, strings.Repeat("x", 4))
	forge(t, g, 0, api.Frame{Kind: api.FData, To: 1, Members: 7, Ballot: 5, Voted: 6, Row: []int{1, 0, 0}, Cut: []int{0, 1, 2}, Msgs: []api.Msg{msg(0, 1, "a", 1, 0, 0)}})
	deliver(t, g, 0)
	wantEvents(t, g, 1, hasGot(0, 1, "a"))
	dropAll(t, g)
	tick(t, g, 1)
	if f := frameOf(t, g, 0); f.Ballot != 0 {
		t.Errorf("P10: by FData process 1 has promised %d", f.Ballot)
	}
}
