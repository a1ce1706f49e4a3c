package chorus_test

import (
	"strings"
	"testing"

	"chorus/api"
)

func TestCastSends(t *testing.T) {
	g := group(t, 4, 4, 20)
	cast(t, g, 2, "a\x00\xff")
	m := msg(2, 1, "a\x00\xff", 0, 0, 1, 0)
	row := []int{0, 0, 1, 0}
	wantFlight(t, g, data(2, 0, row, m), data(2, 1, row, m), data(2, 3, row, m))
	wantEvents(t, g, 2, hasCast(2, 1, "a\x00\xff"))
	wantRow(t, g, 2, 0, 0, 1, 0)
	wantHeld(t, g, 2, 1)
	dropAll(t, g)
	cast(t, g, 2, "")
	m = msg(2, 2, "", 0, 0, 2, 0)
	row = []int{0, 0, 2, 0}
	wantFlight(t, g, data(2, 0, row, m), data(2, 1, row, m), data(2, 3, row, m))
	wantEvents(t, g, 2, hasCast(2, 1, "a\x00\xff"), hasCast(2, 2, ""))
	wantHeld(t, g, 2, 2)
}

func TestTimeTellsWhatWasDelivered(t *testing.T) {
	g := group(t, 3, 4, 20)
	cast(t, g, 0, "a", "b")
	deliver(t, g, 0, 1) // both at 1
	dropAll(t, g)
	cast(t, g, 1, "c", "d")
	wantFlight(t, g,
		data(1, 0, []int{2, 1, 0}, msg(1, 1, "c", 2, 1, 0)), data(1, 2, []int{2, 1, 0}, msg(1, 1, "c", 2, 1, 0)),
		data(1, 0, []int{2, 2, 0}, msg(1, 2, "d", 2, 2, 0)), data(1, 2, []int{2, 2, 0}, msg(1, 2, "d", 2, 2, 0)))
}

func TestCastLengthOfText(t *testing.T) {
	g := group(t, 2, 8, 20)
	for _, s := range []string{"", strings.Repeat("x", 15), strings.Repeat("x", 16), strings.Repeat("ä", 8)} {
		cast(t, g, 0, s)
	}
	before := look(t, g)
	for _, s := range []string{strings.Repeat("x", 17), strings.Repeat("ä", 9), strings.Repeat("x", 272), strings.Repeat("x", 1<<20)} {
		wantErr(t, "P9: Cast of a long text", g.Cast(0, s), api.ErrLarge)
		wantSame(t, "P1: with an error", g, before)
	}
}

func TestCastWindow(t *testing.T) {
	for window := 1; window <= api.MaxWindow; window++ {
		g := group(t, 2, window, 100)
		for range window {
			cast(t, g, 0, "x")
		}
		before := look(t, g)
		wantErr(t, "P9: Cast behind the window", g.Cast(0, "x"), api.ErrFull)
		wantErr(t, "P9: Cast, ErrLarge ahead of ErrFull", g.Cast(0, strings.Repeat("x", 17)), api.ErrLarge)
		wantSame(t, "P1: with an error", g, before)
		// Of another's messages the window says nothing.
		deliverAll(t, g)
		wantHeld(t, g, 1, 0)
		cast(t, g, 1, "y")
		deliverAll(t, g)
		wantHeld(t, g, 0, 0)
		cast(t, g, 0, "x")
	}
}

func TestWindowIsOfOwnMessages(t *testing.T) {
	g := group(t, 3, 2, 100)
	cast(t, g, 0, "a", "b")
	deliverAll(t, g)
	wantHeld(t, g, 1, 2)
	cast(t, g, 1, "c", "d")
	wantHeld(t, g, 1, 4)
	wantErr(t, "P9: Cast behind the window", g.Cast(1, "e"), api.ErrFull)
}

func TestCastExhausted(t *testing.T) {
	g := group(t, 2, 1, 100)
	for range api.MaxSeq {
		cast(t, g, 0, "x")
		deliverAll(t, g)
		tick(t, g, 1)
		deliverAll(t, g)
	}
	wantRow(t, g, 1, 20, 0)
	before := look(t, g)
	wantErr(t, "P9: Cast behind MaxSeq", g.Cast(0, "x"), api.ErrExhausted)
	wantErr(t, "P9: Cast, ErrLarge ahead of ErrExhausted", g.Cast(0, strings.Repeat("x", 17)), api.ErrLarge)
	wantSame(t, "P1: with an error", g, before)
	cast(t, g, 1, "y")
}

func TestExhaustedAheadOfFull(t *testing.T) {
	g := group(t, 2, 1, 100)
	for range api.MaxSeq - 1 {
		cast(t, g, 0, "x")
		deliverAll(t, g)
		tick(t, g, 1)
		deliverAll(t, g)
	}
	cast(t, g, 0, "x")
	wantHeld(t, g, 0, 1)
	wantErr(t, "P9: Cast behind MaxSeq and the window", g.Cast(0, "x"), api.ErrExhausted)
}

func TestAloneAllIsStable(t *testing.T) {
	g := group(t, 1, 1, 1)
	for i := range api.MaxSeq {
		cast(t, g, 0, "x")
		wantHeld(t, g, 0, 0)
		wantRow(t, g, 0, i+1)
	}
	wantFlight(t, g)
	tick(t, g, 0)
	wantFlight(t, g)
	wantErr(t, "P9: Cast", g.Cast(0, "x"), api.ErrExhausted)
}

func TestStableIsKnownOfAll(t *testing.T) {
	g := group(t, 3, 4, 100)
	cast(t, g, 0, "a")
	deliverAll(t, g)
	tick(t, g, 1)
	wantHeld(t, g, 0, 1)
	deliver(t, g, 0) // 1's row at 0
	wantHeld(t, g, 0, 1)
	dropAll(t, g)
	tick(t, g, 2)
	deliver(t, g, 0) // 2's row at 0
	wantHeld(t, g, 0, 0)
	wantHeld(t, g, 2, 1)
}

func TestStableIsNeverHeldAgain(t *testing.T) {
	g := group(t, 2, 4, 100)
	cast(t, g, 0, "a")
	wantErr(t, "P7: Copy", g.Copy(0), api.OK)
	deliver(t, g, 0)
	wantHeld(t, g, 1, 0) // by the row that came with it 0 has it, and now 1 has it
	deliver(t, g, 0)
	wantHeld(t, g, 1, 0)
	wantEvents(t, g, 1, hasGot(0, 1, "a"))
	wantRow(t, g, 1, 1, 0)
	tick(t, g, 1)
	wantFlight(t, g, gossip(1, 0, 1, 0))
	deliver(t, g, 0)
	wantHeld(t, g, 0, 0)
	tick(t, g, 0)
	wantFlight(t, g, gossip(0, 1, 1, 0))
}

func TestCastOfWhatAllSayTheyHave(t *testing.T) {
	g := group(t, 2, 4, 100)
	tick(t, g, 1)
	forge(t, g, 0, gossip(1, 0, 2, 0))
	deliver(t, g, 0)
	cast(t, g, 0, "a", "b")
	wantHeld(t, g, 0, 0)
	cast(t, g, 0, "c")
	wantHeld(t, g, 0, 1)
	if g.Flight() != 3 {
		t.Errorf("P9: %d frames, want 3", g.Flight())
	}
}

// A forged message may stand where the next own one belongs; what is cast takes its place.
func TestCastTakesItsNumber(t *testing.T) {
	g := group(t, 2, 1, 100)
	cast(t, g, 1, "x")
	forge(t, g, 0, data(1, 0, []int{0, 1}, msg(0, 1, "f", 1, 1)))
	deliver(t, g, 0)
	wantHeld(t, g, 0, 1)
	wantErr(t, "P9: Cast", g.Cast(0, "o"), api.ErrFull)

	g = group(t, 2, 2, 100)
	cast(t, g, 1, "x")
	forge(t, g, 0, data(1, 0, []int{0, 1}, msg(0, 1, "f", 1, 1)))
	deliver(t, g, 0)
	cast(t, g, 0, "o")
	wantHeld(t, g, 0, 1)
	dropAll(t, g)
	tick(t, g, 0)
	wantFlight(t, g, gossip(0, 1, 1, 0), data(0, 1, []int{1, 0}, msg(0, 1, "o", 1, 0)))
}
