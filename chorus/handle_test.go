package chorus_test

import (
	"testing"

	"chorus/api"
)

func TestExample2And3(t *testing.T) {
	g := group(t, 3, 4, 100)
	a, b := msg(0, 1, "a", 1, 0, 0), msg(1, 1, "b", 1, 1, 0)
	cast(t, g, 0, "a")
	wantFlight(t, g, data(0, 1, []int{1, 0, 0}, a), data(0, 2, []int{1, 0, 0}, a))
	deliver(t, g, 0)
	wantEvents(t, g, 1, hasGot(0, 1, "a"))
	wantRow(t, g, 1, 1, 0, 0)
	cast(t, g, 1, "b")
	wantFlight(t, g, data(0, 2, []int{1, 0, 0}, a), data(1, 0, []int{1, 1, 0}, b), data(1, 2, []int{1, 1, 0}, b))
	deliver(t, g, 2)
	wantHeld(t, g, 2, 1)
	wantEvents(t, g, 2)
	deliver(t, g, 0)
	wantEvents(t, g, 2, hasGot(0, 1, "a"), hasGot(1, 1, "b"))
	deliver(t, g, 0)
	wantEvents(t, g, 0, hasCast(0, 1, "a"), hasGot(1, 1, "b"))
	tick(t, g, 1)
	row := []int{1, 1, 0}
	wantFlight(t, g, gossip(1, 0, row...), data(1, 0, row, b), gossip(1, 2, row...), data(1, 2, row, a), data(1, 2, row, b))
}

func TestNumbersOfOneSenderInOrder(t *testing.T) {
	g := group(t, 2, 4, 100)
	cast(t, g, 0, "a", "b", "c")
	deliver(t, g, 2)
	wantEvents(t, g, 1)
	deliver(t, g, 1)
	wantEvents(t, g, 1)
	wantHeld(t, g, 1, 2)
	deliver(t, g, 0)
	wantEvents(t, g, 1, hasGot(0, 1, "a"), hasGot(0, 2, "b"), hasGot(0, 3, "c"))
	wantRow(t, g, 1, 3, 0)
}

func TestLowestSenderFirst(t *testing.T) {
	g := group(t, 5, 4, 100)
	cast(t, g, 3, "root")
	deliver(t, g, 2, 1, 0) // at 2, 1 and 0; the one to 4 stays
	for _, p := range []int{2, 0, 1} {
		cast(t, g, p, "x")
		cast(t, g, p, "y")
	}
	var root int
	for k := range g.Flight() {
		if f := frameOf(t, g, k); f.To == 4 && f.From == 3 {
			root = k
		}
	}
	for k := g.Flight() - 1; k > root; k-- {
		if f := frameOf(t, g, k); f.To == 4 {
			deliver(t, g, k)
		}
	}
	wantEvents(t, g, 4)
	wantHeld(t, g, 4, 6)
	deliver(t, g, root)
	wantEvents(t, g, 4, hasGot(3, 1, "root"), hasGot(0, 1, "x"), hasGot(0, 2, "y"), hasGot(1, 1, "x"), hasGot(1, 2, "y"), hasGot(2, 1, "x"), hasGot(2, 2, "y"))
}

// A lower sender that can be delivered only behind a higher one goes ahead of all others as soon as it can.
func TestLowestSenderAnew(t *testing.T) {
	g := group(t, 4, 4, 100)
	cast(t, g, 1, "b")
	deliver(t, g, 0) // at 0
	cast(t, g, 0, "a")
	cast(t, g, 1, "e")
	b, a, e := msg(1, 1, "b", 0, 1, 0, 0), msg(0, 1, "a", 1, 1, 0, 0), msg(1, 2, "e", 0, 2, 0, 0)
	wantFlight(t, g,
		data(1, 2, []int{0, 1, 0, 0}, b), data(1, 3, []int{0, 1, 0, 0}, b),
		data(0, 1, []int{1, 1, 0, 0}, a), data(0, 2, []int{1, 1, 0, 0}, a), data(0, 3, []int{1, 1, 0, 0}, a),
		data(1, 0, []int{0, 2, 0, 0}, e), data(1, 2, []int{0, 2, 0, 0}, e), data(1, 3, []int{0, 2, 0, 0}, e))
	deliver(t, g, 7, 4) // "e" and "a" at 3
	wantEvents(t, g, 3)
	deliver(t, g, 1)
	wantEvents(t, g, 3, hasGot(1, 1, "b"), hasGot(0, 1, "a"), hasGot(1, 2, "e"))
}

func TestADoubleIsDeliveredOnce(t *testing.T) {
	g := group(t, 3, 4, 100)
	cast(t, g, 0, "a")
	for range 3 {
		wantErr(t, "P7: Copy", g.Copy(0), api.OK)
	}
	deliverAll(t, g)
	wantEvents(t, g, 1, hasGot(0, 1, "a"))
	wantHeld(t, g, 1, 1)
	wantRow(t, g, 1, 1, 0, 0)
	wantFlight(t, g)
}

func TestWhatIsHeldStays(t *testing.T) {
	g := group(t, 3, 4, 100)
	cast(t, g, 0, "a", "b")
	wantErr(t, "P7: Copy", g.Copy(2), api.OK) // "b" to 1
	forge(t, g, 4, data(0, 1, []int{2, 0, 0}, msg(0, 2, "c", 2, 0, 0)))
	deliver(t, g, 2) // "b" is held
	deliver(t, g, 3) // the forged one comes too late
	deliver(t, g, 0)
	wantEvents(t, g, 1, hasGot(0, 1, "a"), hasGot(0, 2, "b"))
}

func TestAMessageOfAThird(t *testing.T) {
	g := group(t, 3, 4, 100)
	cast(t, g, 0, "a")
	deliver(t, g, 0) // at 1
	dropAll(t, g)
	tick(t, g, 1)
	wantFlight(t, g, gossip(1, 0, 1, 0, 0), gossip(1, 2, 1, 0, 0), data(1, 2, []int{1, 0, 0}, msg(0, 1, "a", 1, 0, 0)))
	deliver(t, g, 2)
	wantEvents(t, g, 2, hasGot(0, 1, "a"))
	// From 1 it has learnt 1's row, not 0's: that 0 has its own message is not known.
	wantHeld(t, g, 2, 1)
	tick(t, g, 2)
	if n := g.Flight(); n != 2+3 {
		t.Errorf("P11: %d frames, want 5: to 1 just the gossip", n)
	}
}

func TestViewsAboveAreIgnored(t *testing.T) {
	g := group(t, 2, 4, 100)
	cast(t, g, 0, "a")
	tick(t, g, 0)
	for k := range 3 {
		f := frameOf(t, g, k)
		f.View = []int{1, 2, api.MaxBallot - 1}[k]
		forge(t, g, k, f)
	}
	for range 3 {
		before := look(t, g)
		before.frames = before.frames[1:]
		if len(before.frames) == 0 {
			before.frames = nil
		}
		deliver(t, g, 0)
		wantSame(t, "P10: a view above", g, before)
	}
	tick(t, g, 1)
	wantFlight(t, g, gossip(1, 0, 0, 0))
}

func TestGossipTeachesARow(t *testing.T) {
	g := group(t, 2, 8, 100)
	cast(t, g, 0, "a", "b", "c")
	dropAll(t, g)
	for _, c := range []struct{ says, held int }{{1, 2}, {0, 2}, {2, 1}, {1, 1}, {3, 0}, {0, 0}} {
		tick(t, g, 1)
		forge(t, g, 0, gossip(1, 0, c.says, 0))
		deliver(t, g, 0)
		wantHeld(t, g, 0, c.held)
	}
	wantRow(t, g, 0, 3, 0)
	wantEvents(t, g, 0, hasCast(0, 1, "a"), hasCast(0, 2, "b"), hasCast(0, 3, "c"))
}

func TestEveryEntryIsLearntByItself(t *testing.T) {
	g := group(t, 3, 8, 100)
	cast(t, g, 0, "a")
	cast(t, g, 1, "b")
	deliver(t, g, 0, 1) // "a" at 1, "b" at 0
	dropAll(t, g)
	wantHeld(t, g, 0, 2)
	tick(t, g, 1)
	forge(t, g, 0, gossip(1, 0, 1, 0, 0))
	deliver(t, g, 0)
	tick(t, g, 1)
	dropAll(t, g)
	tick(t, g, 2)
	forge(t, g, 0, gossip(2, 0, 1, 0, 0))
	deliver(t, g, 0)
	wantHeld(t, g, 0, 1)
	dropAll(t, g)
	tick(t, g, 2)
	forge(t, g, 0, gossip(2, 0, 0, 1, 0))
	deliver(t, g, 0)
	wantHeld(t, g, 0, 0)
}

func TestGossipPromises(t *testing.T) {
	g := group(t, 2, 4, 100)
	for _, c := range []struct{ ballot, promised int }{{0, 0}, {9, 9}, {8, 9}, {10, 10}, {0, 10}, {api.MaxBallot - 1, api.MaxBallot - 1}, {1, api.MaxBallot - 1}} {
		tick(t, g, 1)
		f := gossip(1, 0, 0, 0)
		f.Ballot = c.ballot
		forge(t, g, 0, f)
		deliver(t, g, 0)
		tick(t, g, 0)
		want := gossip(0, 1, 0, 0)
		want.Ballot = c.promised
		wantFlight(t, g, want)
		dropAll(t, g)
	}
	cast(t, g, 0, "a")
	if f := frameOf(t, g, 0); f.Ballot != 0 {
		t.Errorf("P9: FData tells the ballot %d", f.Ballot)
	}
}

func TestGossipDeliversNothing(t *testing.T) {
	g := group(t, 2, 4, 100)
	cast(t, g, 1, "x")
	forge(t, g, 0, data(1, 0, []int{0, 1}, msg(1, 1, "y", 1, 1)))
	deliver(t, g, 0)
	wantHeld(t, g, 0, 1)
	cast(t, g, 0, "a")
	tick(t, g, 1)
	deliver(t, g, 1)
	// By now it could be delivered, but neither a cast nor a gossip does so.
	wantEvents(t, g, 0, hasCast(0, 1, "a"))
	deliver(t, g, 1)
	wantEvents(t, g, 0, hasCast(0, 1, "a"), hasGot(1, 1, "y"))
}
