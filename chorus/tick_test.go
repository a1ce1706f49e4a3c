package chorus_test

import (
	"reflect"
	"testing"

	"chorus/api"
)

func TestTickOfTheIdle(t *testing.T) {
	g := group(t, 4, 4, 100)
	tick(t, g, 1)
	wantFlight(t, g, gossip(1, 0, 0, 0, 0, 0), gossip(1, 2, 0, 0, 0, 0), gossip(1, 3, 0, 0, 0, 0))
	wantEvents(t, g, 1)
}

func TestTickSendsBySendersAndNumbers(t *testing.T) {
	g := group(t, 3, 8, 100)
	cast(t, g, 0, "a", "b", "c")
	cast(t, g, 1, "d", "e")
	for k := g.Flight() - 1; k >= 0; k-- {
		if frameOf(t, g, k).To == 2 {
			deliver(t, g, k)
		}
	}
	dropAll(t, g)
	cast(t, g, 2, "f", "g")
	dropAll(t, g)
	tick(t, g, 2)
	row := []int{3, 2, 2}
	a, b, c := msg(0, 1, "a", 1, 0, 0), msg(0, 2, "b", 2, 0, 0), msg(0, 3, "c", 3, 0, 0)
	d, e := msg(1, 1, "d", 0, 1, 0), msg(1, 2, "e", 0, 2, 0)
	f, h := msg(2, 1, "f", 3, 2, 1), msg(2, 2, "g", 3, 2, 2)
	wantFlight(t, g,
		gossip(2, 0, row...), data(2, 0, row, d), data(2, 0, row, e), data(2, 0, row, f), data(2, 0, row, h),
		gossip(2, 1, row...), data(2, 1, row, a), data(2, 1, row, b), data(2, 1, row, c), data(2, 1, row, f), data(2, 1, row, h))
}

func TestTickSendsWhatIsHeldAndNotDelivered(t *testing.T) {
	g := group(t, 3, 8, 100)
	cast(t, g, 0, "a", "b")
	deliver(t, g, 2) // "b" at 1
	dropAll(t, g)
	wantEvents(t, g, 1)
	tick(t, g, 1)
	row := []int{0, 0, 0}
	wantFlight(t, g, gossip(1, 0, row...), gossip(1, 2, row...), data(1, 2, row, msg(0, 2, "b", 2, 0, 0)))
}

func TestTickSendsAgainUntilItIsKnown(t *testing.T) {
	g := group(t, 2, 8, 100)
	cast(t, g, 0, "a")
	dropAll(t, g)
	a := msg(0, 1, "a", 1, 0)
	for range 3 {
		tick(t, g, 0)
		wantFlight(t, g, gossip(0, 1, 1, 0), data(0, 1, []int{1, 0}, a))
		dropAll(t, g)
	}
	tick(t, g, 0)
	deliverAll(t, g)
	wantEvents(t, g, 1, hasGot(0, 1, "a"))
	tick(t, g, 1)
	deliverAll(t, g)
	tick(t, g, 0)
	wantFlight(t, g, gossip(0, 1, 1, 0))
}

func TestTickTellsOfTheCrashedToo(t *testing.T) {
	g := group(t, 3, 8, 100)
	wantErr(t, "P8: Crash", g.Crash(1), api.OK)
	tick(t, g, 0)
	wantFlight(t, g, gossip(0, 1, 0, 0, 0), gossip(0, 2, 0, 0, 0))
}

// The order of a map is another one every time; what is told must not be.
func TestOrderIsNeverOfTheMap(t *testing.T) {
	run := func() picture {
		g := group(t, 6, 8, 4000)
		for range 8 {
			for p := range 6 {
				cast(t, g, p, string(rune('a'+p)))
			}
		}
		for k := g.Flight() - 1; k >= 0; k -= 2 {
			deliver(t, g, k)
		}
		dropAll(t, g)
		tick(t, g, 0, 1, 2, 3, 4, 5)
		return look(t, g)
	}
	first := run()
	for range 10 {
		if again := run(); !reflect.DeepEqual(first, again) {
			t.Fatalf("P11: the same steps told %+v, then %+v", first, again)
		}
	}
}
