package chorus_test

import (
	"math/rand"
	"reflect"
	"runtime"
	"slices"
	"sync"
	"testing"

	"chorus/api"
	"chorus/chorus"
)

// round lets rounds go by; of each it is told how many frames it must take out.
func round(t *testing.T, g *chorus.Group, l ...int) {
	t.Helper()
	for _, want := range l {
		if n := g.Round(); n != want {
			t.Fatalf("P15: Round = %d, want %d", n, want)
		}
	}
}

// gossips are what n idle processes tell one another, process by process.
func gossips(n int) []api.Frame {
	var l []api.Frame
	for p := range n {
		for q := range n {
			if q != p {
				l = append(l, gossip(p, q, make([]int, n)...))
			}
		}
	}
	return l
}

func TestRoundOfSeveral(t *testing.T) {
	g := group(t, 3, 4, 100)
	cast(t, g, 0, "a")
	cast(t, g, 1, "b")
	round(t, g, 4)
	wantEvents(t, g, 0, hasCast(0, 1, "a"), hasGot(1, 1, "b"))
	wantEvents(t, g, 1, hasCast(1, 1, "b"), hasGot(0, 1, "a"))
	wantEvents(t, g, 2, hasGot(0, 1, "a"), hasGot(1, 1, "b"))
	// What each knows of the others is what came with their messages.
	a, b, row := msg(0, 1, "a", 1, 0, 0), msg(1, 1, "b", 0, 1, 0), []int{1, 1, 0}
	wantFlight(t, g,
		gossip(0, 1, row...), data(0, 1, row, a), gossip(0, 2, row...), data(0, 2, row, a), data(0, 2, row, b),
		gossip(1, 0, row...), data(1, 0, row, b), gossip(1, 2, row...), data(1, 2, row, a), data(1, 2, row, b),
		gossip(2, 0, row...), data(2, 0, row, b), gossip(2, 1, row...), data(2, 1, row, a))
	round(t, g, 14)
	for p := range 3 {
		wantState(t, g, p, api.Proc{Up: true, Members: 7, Row: row})
	}
	round(t, g, 6, 6)
}

func TestRoundWithNothingInFlight(t *testing.T) {
	for n := 1; n <= api.MaxProcs; n++ {
		g := group(t, n, 4, 100)
		round(t, g, 0)
		wantFlight(t, g, gossips(n)...)
		dropAll(t, g)
		round(t, g, 0, n*(n-1))
		wantFlight(t, g, gossips(n)...)
	}
}

func TestRoundOfOneAlone(t *testing.T) {
	g := group(t, 1, 1, 1)
	round(t, g, 0)
	cast(t, g, 0, "a")
	round(t, g, 0, 0)
	wantFlight(t, g)
	wantEvents(t, g, 0, hasCast(0, 1, "a"))
	wantState(t, g, 0, api.Proc{Up: true, Members: 1, Row: []int{1}})
	crash(t, g, 0)
	round(t, g, 0)
}

func TestRoundLetsFramesArriveInOrder(t *testing.T) {
	g := group(t, 3, 4, 100)
	cast(t, g, 2, "b")
	cast(t, g, 0, "a")
	keepTo(t, g, 1)
	round(t, g, 2)
	wantEvents(t, g, 1, hasGot(2, 1, "b"), hasGot(0, 1, "a"))
}

// keepTo loses all frames in flight but those to a process.
func keepTo(t *testing.T, g *chorus.Group, p int) {
	t.Helper()
	for k := g.Flight() - 1; k >= 0; k-- {
		if frameOf(t, g, k).To != p {
			wantErr(t, "P7: Drop", g.Drop(k), api.OK)
		}
	}
}

func TestRoundOfTheCrashed(t *testing.T) {
	g := group(t, 3, 4, 100)
	cast(t, g, 0, "a")
	cast(t, g, 1, "b")
	crash(t, g, 1)
	down := state(t, g, 1)
	round(t, g, 4)
	wantState(t, g, 1, down)
	wantEvents(t, g, 1, hasCast(1, 1, "b"))
	wantEvents(t, g, 2, hasGot(0, 1, "a"), hasGot(1, 1, "b"))
	// That it has crashed the others do not know.
	a, b, row := msg(0, 1, "a", 1, 0, 0), msg(1, 1, "b", 0, 1, 0), []int{1, 1, 0}
	wantFlight(t, g,
		gossip(0, 1, row...), data(0, 1, row, a), gossip(0, 2, row...), data(0, 2, row, a), data(0, 2, row, b),
		gossip(2, 0, row...), data(2, 0, row, b), gossip(2, 1, row...), data(2, 1, row, a))
	crash(t, g, 0, 2)
	before := look(t, g)
	before.frames = nil
	round(t, g, 9)
	wantSame(t, "P15: all have crashed", g, before)
	round(t, g, 0)
	wantSame(t, "P15: all have crashed", g, before)
}

func TestRoundOfTheExcluded(t *testing.T) {
	g := group(t, 3, 4, 100)
	cast(t, g, 0, "a")
	suspect(t, g, 0, 1)
	wantErr(t, "P7: Copy", g.Copy(0), api.OK) // "a" to 1 is there once more, and stays
	tick(t, g, 0)
	for g.Flight() > 1 {
		k := 0
		if f := frameOf(t, g, 0); f.To == 1 && f.Kind == api.FData {
			k = 1
		}
		deliver(t, g, k)
	}
	cast(t, g, 0, "c")
	before := look(t, g)
	if !before.procs[1].Out {
		t.Fatalf("the test is wrong: process 1 is at %+v", before.procs[1])
	}
	round(t, g, 2)
	wantState(t, g, 1, before.procs[1])
	wantEvents(t, g, 1, before.events[1]...)
	wantEvents(t, g, 2, append(before.events[2], in(1, hasGot(0, 1, "c")))...)
	if k := slices.IndexFunc(look(t, g).frames, func(s string) bool { return s[1] == 1 }); k >= 0 {
		t.Errorf("P15: one that was excluded has sent %+v", frameOf(t, g, k))
	}
}

// What one that is excluded in the round has sent ahead of that stands; behind it, it does nothing any more.
func TestRoundExcludes(t *testing.T) {
	g := group(t, 3, 4, 100)
	cast(t, g, 2, "a")
	keepTo(t, g, 1)
	suspect(t, g, 1, 0)
	tick(t, g, 1)
	deliver(t, g, 1) // its FFlush at 2
	for g.Flight() > 2 {
		if frameOf(t, g, 1).Kind == api.FState {
			wantErr(t, "P7: Drop", g.Drop(2), api.OK)
		} else {
			wantErr(t, "P7: Drop", g.Drop(1), api.OK)
		}
	}
	// In flight are "a" and FState, both to 1. Now 0 leaves out 1, in a ballot above that of 1.
	suspect(t, g, 0, 1)
	tick(t, g, 2)
	deliver(t, g, 2) // its gossip, with the ballot 9, at 0
	tick(t, g, 0)
	for _, kind := range []int{api.FFlush, api.FState, api.FAccept, api.FAccepted} {
		k := slices.IndexFunc(look(t, g).frames[2:], func(s string) bool { return s[0] == byte(kind) })
		deliver(t, g, 2+k)
	}
	for k := g.Flight() - 1; k >= 2; k-- {
		if frameOf(t, g, k).Kind != api.FInstall {
			wantErr(t, "P7: Drop", g.Drop(k), api.OK)
		}
	}
	// "a" goes behind: FState, FInstall to 1, FInstall to 2, "a".
	wantErr(t, "P7: Copy", g.Copy(0), api.OK)
	wantErr(t, "P7: Drop", g.Drop(0), api.OK)
	cut := []int{0, 0, 1}
	a := msg(2, 1, "a", cut...)
	wantFlight(t, g,
		api.Frame{Kind: api.FState, From: 2, To: 1, Ballot: 9, Row: cut, Msgs: []api.Msg{a}},
		api.Frame{Kind: api.FInstall, To: 1, Members: 5, Cut: cut, Msgs: []api.Msg{a}},
		api.Frame{Kind: api.FInstall, To: 2, Members: 5, Cut: cut, Msgs: []api.Msg{a}},
		data(2, 1, cut, a))
	round(t, g, 4)
	wantEvents(t, g, 1, hasGot(2, 1, "a"), api.Event{Kind: api.EExclude})
	wantEvents(t, g, 2, hasCast(2, 1, "a"), hasInstalled(1, 5))
	from0, from2 := gossip(0, 2, 0, 0, 0), gossip(2, 0, 0, 0, 0)
	from0.View, from2.View = 1, 1
	from2.Ballot = 10 // 2 suspects 0 still, and asks nobody but itself
	wantFlight(t, g, from0, api.Frame{Kind: api.FAccept, From: 1, To: 2, Ballot: 9, Members: 6, Cut: cut, Msgs: []api.Msg{a}}, from2)
}

// A frame arrives at the process to which it was sent, whatever its bytes say by now.
func TestRoundOfSpoiltFrames(t *testing.T) {
	a, row := msg(0, 1, "a", 1, 0, 0), []int{1, 0, 0}
	for what, spoil := range map[string]func(g *chorus.Group){
		"no frame any more":       func(g *chorus.Group) { wantErr(t, "P7: Corrupt", g.Corrupt(0, 5, 64), api.OK) },
		"to 2, with a wrong sum":  func(g *chorus.Group) { wantErr(t, "P7: Corrupt", g.Corrupt(0, 2, 3), api.OK) },
		"made out to 2":           func(g *chorus.Group) { forge(t, g, 0, data(0, 2, row, a)) },
		"made out to the sender":  func(g *chorus.Group) { forge(t, g, 0, data(0, 0, row, a)) },
		"made out to nobody here": func(g *chorus.Group) { forge(t, g, 0, data(0, 5, row, a)) },
	} {
		g := group(t, 3, 4, 100)
		cast(t, g, 0, "a")
		wantErr(t, "P7: Drop", g.Drop(1), api.OK)
		spoil(g)
		round(t, g, 1)
		for p := 1; p < 3; p++ {
			if x := state(t, g, p); x.Held != 0 || x.Row[0] != 0 {
				t.Errorf("P15: behind a frame to 1 that was %s process %d is at %+v", what, p, x)
			}
			wantEvents(t, g, p)
		}
	}
	// What is fit by now is heeded, whoever had sent it.
	g := group(t, 3, 4, 100)
	cast(t, g, 0, "a")
	forge(t, g, 0, data(2, 1, row, msg(0, 1, "b", 1, 0, 0)))
	round(t, g, 2)
	wantEvents(t, g, 1, hasGot(0, 1, "b"))
	wantEvents(t, g, 2, hasGot(0, 1, "a"))
}

// What is sent within a round arrives in a later one only, from a lower process to a higher one and the other way round.
func TestRoundSendsForALaterOne(t *testing.T) {
	g := group(t, 3, 4, 100)
	cast(t, g, 0, "a")
	cast(t, g, 2, "b")
	dropAll(t, g)
	round(t, g, 0)
	wantEvents(t, g, 0, hasCast(0, 1, "a"))
	wantEvents(t, g, 1)
	wantEvents(t, g, 2, hasCast(2, 1, "b"))
	round(t, g, 10)
	wantEvents(t, g, 0, hasCast(0, 1, "a"), hasGot(2, 1, "b"))
	wantEvents(t, g, 1, hasGot(0, 1, "a"), hasGot(2, 1, "b"))
	wantEvents(t, g, 2, hasCast(2, 1, "b"), hasGot(0, 1, "a"))
}

// By rounds a ballot goes on by one kind of frame in each.
func TestRoundsChangeTheView(t *testing.T) {
	g := group(t, 3, 4, 100)
	crash(t, g, 2)
	suspect(t, g, 0, 2)
	row := []int{0, 0, 0}
	old := api.Proc{Up: true, Members: 7, Row: row}
	suspicious := api.Proc{Up: true, Members: 7, Suspects: 4, Blocked: true, Row: row}
	next := api.Proc{Up: true, View: 1, Members: 3, Row: row}
	for i, want := range []struct {
		of0, of1 api.Proc
		has      int
	}{
		{suspicious, old, api.FFlush},
		{suspicious, suspicious, api.FState},
		{suspicious, suspicious, api.FAccept},
		{suspicious, suspicious, api.FAccepted},
		{next, suspicious, api.FInstall},
		{next, next, api.FGossip},
	} {
		g.Round()
		wantState(t, g, 0, want.of0)
		wantState(t, g, 1, want.of1)
		if !slices.ContainsFunc(look(t, g).frames, func(s string) bool { return s[0] == byte(want.has) }) {
			t.Errorf("P15: behind round %d no frame of kind %d is in flight", i, want.has)
		}
	}
}

// Of what is sent in a round as much is put in flight as there may be; the rest, that of the higher processes first, is lost.
func TestRoundInASmallNetwork(t *testing.T) {
	for limit := 1; limit <= 8; limit++ {
		g := group(t, 3, 4, limit)
		round(t, g, 0)
		kept := min(limit, 6)
		wantFlight(t, g, gossips(3)[:kept]...)
		// What was in flight ahead of the round takes no room.
		round(t, g, kept)
		wantFlight(t, g, gossips(3)[:kept]...)
		cast(t, g, 2, "lost, or nearly")
		taken := min(limit, kept+2)
		round(t, g, taken)
		wantFlight(t, g, sentBehindACast(taken)[:limit]...)
	}
}

// sentBehindACast is what is sent in the last round of TestRoundInASmallNetwork: the message of 2 got to 0 if more than 6 frames had room, and to 1 if more than 7 had.
func sentBehindACast(taken int) []api.Frame {
	m := msg(2, 1, "lost, or nearly", 0, 0, 1)
	rows := [][]int{{0, 0, 0}, {0, 0, 0}, {0, 0, 1}}
	for p := range 2 {
		if taken > 6+p {
			rows[p][2] = 1
		}
	}
	var l []api.Frame
	for p, row := range rows {
		for q := range 3 {
			if q == p {
				continue
			}
			l = append(l, gossip(p, q, row...))
			if row[2] == 1 && q != 2 {
				l = append(l, data(p, q, row, m))
			}
		}
	}
	return l
}

func TestRoundOfTheLargestFlight(t *testing.T) {
	g := group(t, 6, 8, api.MaxFlight)
	cast(t, g, 0, "a")
	for g.Flight() < api.MaxFlight {
		wantErr(t, "P7: Copy", g.Copy(g.Flight()%5), api.OK)
	}
	round(t, g, 4000)
	for p := 1; p < 6; p++ {
		wantEvents(t, g, p, hasGot(0, 1, "a"))
	}
	// Of 0: a gossip and "a" to each; of the others no "a" to 0.
	if g.Flight() != 10+5*(5+4) {
		t.Errorf("P15: %d frames are in flight, want 55", g.Flight())
	}
}

// drawnRounds lets drawn things happen to a group, rounds among them, and tells what has come of it.
func drawnRounds(t *testing.T, seed int64) picture {
	t.Helper()
	r := rand.New(rand.NewSource(seed))
	d := newRun(t, r, false)
	for range 30 {
		d.steps(t, r, 8)
		d.g.Round()
	}
	return look(t, d.g)
}

// The answer is one, however the processes run.
func TestRoundIsOneHoweverItRuns(t *testing.T) {
	defer runtime.GOMAXPROCS(runtime.GOMAXPROCS(0))
	for seed := range int64(20) {
		runtime.GOMAXPROCS(1)
		first := drawnRounds(t, seed)
		for _, n := range []int{2, 3, 8, 64} {
			runtime.GOMAXPROCS(n)
			if again := drawnRounds(t, seed); !reflect.DeepEqual(again, first) {
				t.Fatalf("P15: the same steps told %+v, then %+v", first, again)
			}
		}
	}
}

// Groups whose rounds go by at the same time know nothing of one another.
func TestRoundsOfGroupsAreApart(t *testing.T) {
	const groups = 8
	var first, again [groups]picture
	for i := range groups {
		first[i] = drawnRounds(t, int64(100+i))
	}
	var all sync.WaitGroup
	for i := range groups {
		all.Go(func() { again[i] = drawnRounds(t, int64(100+i)) })
	}
	all.Wait()
	if !reflect.DeepEqual(first, again) {
		t.Errorf("P2: groups whose rounds go by at the same time tell something else")
	}
}

func TestRoundLeavesAnswersAlone(t *testing.T) {
	g := group(t, 3, 4, 100)
	cast(t, g, 0, "a")
	g.Round()
	l, _ := g.Events(1)
	l = l[:cap(l)]
	x := state(t, g, 1)
	room := x.Row[:cap(x.Row)]
	wasEvents, wasRow := slices.Clone(l), slices.Clone(room)
	cast(t, g, 0, "b")
	cast(t, g, 2, "c")
	g.Round()
	if !slices.Equal(l, wasEvents) || !slices.Equal(room, wasRow) {
		t.Errorf("P2: a Round has written into an earlier answer")
	}
	before := look(t, g)
	clear(l)
	clear(room)
	wantSame(t, "P2: behind writing into answers", g, before)
}
