package chorus_test

import (
	"math"
	"reflect"
	"slices"
	"testing"

	"chorus/api"
	"chorus/chorus"
)

func crash(t *testing.T, g *chorus.Group, l ...int) {
	t.Helper()
	for _, p := range l {
		wantErr(t, "P8: Crash", g.Crash(p), api.OK)
	}
}

// suspect lets p suspect all of a list.
func suspect(t *testing.T, g *chorus.Group, p int, l ...int) {
	t.Helper()
	for _, q := range l {
		wantErr(t, "P12: Suspect", g.Suspect(p, q), api.OK)
	}
}

func hasInstalled(view, members int) api.Event {
	return api.Event{Kind: api.EInstall, View: view, Members: members}
}

// in is an event of a later view.
func in(view int, e api.Event) api.Event {
	e.View = view
	return e
}

func wantState(t *testing.T, g *chorus.Group, p int, want api.Proc) {
	t.Helper()
	if x := state(t, g, p); !reflect.DeepEqual(x, want) {
		t.Fatalf("P8: process %d is at %+v, want %+v", p, x, want)
	}
}

// keep loses all frames in flight but those of a kind.
func keep(t *testing.T, g *chorus.Group, kind int) {
	t.Helper()
	for k := g.Flight() - 1; k >= 0; k-- {
		if frameOf(t, g, k).Kind != kind {
			wantErr(t, "P7: Drop", g.Drop(k), api.OK)
		}
	}
}

// deliverNow lets all frames arrive that are in flight by now, and not what is sent about them.
func deliverNow(t *testing.T, g *chorus.Group) {
	t.Helper()
	for range g.Flight() {
		deliver(t, g, 0)
	}
}

func TestSuspectErrors(t *testing.T) {
	g := group(t, 3, 4, 20)
	crash(t, g, 2)
	before := look(t, g)
	for _, p := range []int{-1, 3, 5, 6, 64, math.MinInt, math.MaxInt} {
		for _, q := range []int{0, 2, p} {
			wantErr(t, "P12: Suspect of no such process", g.Suspect(p, q), api.ErrProc)
			wantErr(t, "P12: Suspect of no such process", g.Suspect(q, p), api.ErrProc)
		}
	}
	wantErr(t, "P12: Suspect of itself", g.Suspect(1, 1), api.ErrSelf)
	wantErr(t, "P12: Suspect of itself, ahead of ErrDown", g.Suspect(2, 2), api.ErrSelf)
	wantErr(t, "P12: Suspect by one that has crashed", g.Suspect(2, 0), api.ErrDown)
	wantSame(t, "P1: with an error", g, before)

	g = group(t, 3, 4, 20)
	suspect(t, g, 0, 1)
	tick(t, g, 0)
	deliverAll(t, g)
	before = look(t, g)
	wantErr(t, "P12: Suspect by one that was excluded", g.Suspect(1, 0), api.ErrOut)
	wantErr(t, "P12: Suspect of no such process, ahead of ErrOut", g.Suspect(1, 3), api.ErrProc)
	wantErr(t, "P12: Suspect of itself, ahead of ErrOut", g.Suspect(1, 1), api.ErrSelf)
	wantErr(t, "P12: Suspect of one that is no member", g.Suspect(0, 1), api.OK)
	wantSame(t, "P12: of one that is no member", g, before)
	crash(t, g, 1)
	wantErr(t, "P12: Suspect, ErrDown ahead of ErrOut", g.Suspect(1, 0), api.ErrDown)
}

func TestSuspectIsToldAndNothingElse(t *testing.T) {
	g := group(t, 4, 4, 20)
	cast(t, g, 1, "a")
	flying := look(t, g).frames
	suspect(t, g, 1, 0, 3, 0)
	wantState(t, g, 1, api.Proc{Up: true, Members: 15, Suspects: 9, Held: 1, Row: []int{0, 1, 0, 0}})
	wantState(t, g, 0, api.Proc{Up: true, Members: 15, Row: []int{0, 0, 0, 0}})
	if now := look(t, g).frames; !slices.Equal(now, flying) {
		t.Errorf("P12: Suspect has changed what is in flight")
	}
	// Who is suspected is still heard, and still spoken to.
	tick(t, g, 0)
	deliverAll(t, g)
	cast(t, g, 0, "b")
	deliverAll(t, g)
	wantEvents(t, g, 1, hasCast(1, 1, "a"), hasGot(0, 1, "b"))
}

func TestExample4(t *testing.T) {
	g := group(t, 3, 4, 100)
	row := []int{0, 0, 0}
	crash(t, g, 2)
	suspect(t, g, 0, 2)
	tick(t, g, 0)
	withBallot := func(f api.Frame) api.Frame {
		f.Ballot = 8
		return f
	}
	g1, g2 := withBallot(gossip(0, 1, row...)), withBallot(gossip(0, 2, row...))
	wantFlight(t, g, api.Frame{Kind: api.FFlush, To: 1, Ballot: 8, Members: 4}, g1, g2)
	deliver(t, g, 0)
	blocked := api.Proc{Up: true, Blocked: true, Members: 7, Suspects: 4, Row: row}
	wantState(t, g, 1, blocked)
	wantFlight(t, g, g1, g2, api.Frame{Kind: api.FState, From: 1, To: 0, Ballot: 8, Row: row})
	deliver(t, g, 2)
	wantFlight(t, g, g1, g2, api.Frame{Kind: api.FAccept, To: 1, Ballot: 8, Members: 3, Cut: row})
	deliver(t, g, 2)
	wantFlight(t, g, g1, g2, api.Frame{Kind: api.FAccepted, From: 1, To: 0, Ballot: 8})
	wantState(t, g, 0, blocked)
	deliver(t, g, 2)
	install := api.Frame{Kind: api.FInstall, Members: 3, Cut: row}
	i1, i2 := install, install
	i1.To, i2.To = 1, 2
	wantFlight(t, g, g1, g2, i1, i2)
	wantEvents(t, g, 0, hasInstalled(1, 3))
	wantState(t, g, 1, blocked)
	deliver(t, g, 2)
	for p := range 2 {
		wantEvents(t, g, p, hasInstalled(1, 3))
		wantState(t, g, p, api.Proc{Up: true, View: 1, Members: 3, Row: row})
	}
	// 1 is asked about the view that it has left: it tells how it ended, and 0 has no need of it.
	deliver(t, g, 0)
	back := install
	back.From, back.To = 1, 0
	wantFlight(t, g, g2, i2, back)
	before := look(t, g)
	before.frames = before.frames[:2]
	deliver(t, g, 2)
	wantSame(t, "P10: FInstall of a view below", g, before)
}

func TestExample5(t *testing.T) {
	g := group(t, 4, 4, 100)
	crash(t, g, 2, 3)
	suspect(t, g, 0, 2, 3)
	for range 4 {
		tick(t, g, 0, 1)
		deliverAll(t, g)
	}
	for p := range 2 {
		wantEvents(t, g, p)
		wantState(t, g, p, api.Proc{Up: true, Blocked: true, Members: 15, Suspects: 12, Row: []int{0, 0, 0, 0}})
		wantErr(t, "P9: Cast", g.Cast(p, "x"), api.ErrBlocked)
	}
}

// With one more than half of the members the view changes, with half of them it does not.
func TestHalfOfTheMembersAndOneMore(t *testing.T) {
	for n := 2; n <= 6; n++ {
		for left := 1; left < n; left++ {
			g := group(t, n, 4, 400)
			for q := left; q < n; q++ {
				crash(t, g, q)
				suspect(t, g, 0, q)
			}
			for range 2 {
				tick(t, g, 0)
				deliverAll(t, g)
			}
			view := 0
			if 2*left > n {
				view = 1
			}
			for p := range left {
				if x := state(t, g, p); x.View != view || x.Blocked != (view == 0) {
					t.Errorf("P13: %d of %d are left: process %d is at %+v, want view %d", left, n, p, x, view)
				}
			}
		}
	}
}

// By losing half of its members in each view a group comes down to two, but to one it does not.
func TestViewsFollowOneAnother(t *testing.T) {
	g := group(t, 6, 4, 400)
	members := 63
	for view, lost := range [][]int{{5, 4}, {3}, {2}} {
		for _, q := range lost {
			crash(t, g, q)
			suspect(t, g, 0, q)
			members -= 1 << q
		}
		tick(t, g, 0)
		deliverAll(t, g)
		for p := range 2 {
			if x := state(t, g, p); x.View != view+1 || x.Members != members || x.Suspects != 0 || x.Blocked {
				t.Fatalf("P14: process %d is at %+v, want view %d of %d", p, x, view+1, members)
			}
		}
		cast(t, g, 1, "x")
		deliverAll(t, g)
		tick(t, g, 0)
		deliverAll(t, g)
	}
	wantEvents(t, g, 0, hasInstalled(1, 15), in(1, hasGot(1, 1, "x")), hasInstalled(2, 7), in(2, hasGot(1, 1, "x")), hasInstalled(3, 3), in(3, hasGot(1, 1, "x")))
	wantEvents(t, g, 2, hasInstalled(1, 15), in(1, hasGot(1, 1, "x")), hasInstalled(2, 7), in(2, hasGot(1, 1, "x")))
	crash(t, g, 1)
	suspect(t, g, 0, 1)
	tick(t, g, 0)
	deliverAll(t, g)
	if x := state(t, g, 0); x.View != 3 || !x.Blocked {
		t.Errorf("P13: alone of two process 0 is at %+v", x)
	}
}

// What one of those that are left has delivered, all of them deliver ahead of the new view.
func TestTheCutBringsWhatOneHas(t *testing.T) {
	g := group(t, 4, 4, 100)
	cast(t, g, 3, "a", "b")
	for _, k := range []int{2, 4} { // "a" and "b" at 2 alone
		deliver(t, g, k)
	}
	dropAll(t, g)
	cast(t, g, 1, "c")
	dropAll(t, g)
	crash(t, g, 3)
	suspect(t, g, 0, 3)
	tick(t, g, 0)
	deliverAll(t, g)
	wantEvents(t, g, 0, hasGot(1, 1, "c"), hasGot(3, 1, "a"), hasGot(3, 2, "b"), hasInstalled(1, 7))
	wantEvents(t, g, 1, hasCast(1, 1, "c"), hasGot(3, 1, "a"), hasGot(3, 2, "b"), hasInstalled(1, 7))
	wantEvents(t, g, 2, hasGot(3, 1, "a"), hasGot(3, 2, "b"), hasGot(1, 1, "c"), hasInstalled(1, 7))
}

// What nobody that is left has delivered is barred, though it is held and could be delivered.
func TestTheCutBarsWhatNobodyHas(t *testing.T) {
	g := group(t, 3, 4, 100)
	cast(t, g, 2, "a")
	suspect(t, g, 0, 2)
	tick(t, g, 0)
	a := msg(2, 1, "a", 0, 0, 1)
	deliver(t, g, 2) // FFlush at 1
	keep(t, g, api.FData)
	wantFlight(t, g, data(2, 0, []int{0, 0, 1}, a), data(2, 1, []int{0, 0, 1}, a))
	tick(t, g, 0)               // the answer is lost: once more
	deliver(t, g, 2)            // FFlush at 1
	deliver(t, g, g.Flight()-1) // FState at 0
	deliver(t, g, 0, 0)
	for p := range 2 {
		wantHeld(t, g, p, 1)
		wantEvents(t, g, p)
	}
	keep(t, g, api.FAccept)
	wantFlight(t, g, api.Frame{Kind: api.FAccept, To: 1, Ballot: 8, Members: 3, Cut: []int{0, 0, 0}})
	deliverAll(t, g)
	for p := range 2 {
		wantEvents(t, g, p, hasInstalled(1, 3))
		wantHeld(t, g, p, 0)
	}
	wantEvents(t, g, 2, hasCast(2, 1, "a"), api.Event{Kind: api.EExclude})
}

// One that is up is excluded, and learns it when it speaks.
func TestExcludedThoughUp(t *testing.T) {
	g := group(t, 3, 4, 100)
	suspect(t, g, 0, 1)
	tick(t, g, 0)
	for range 3 { // FFlush, FState, FAccept
		k := slices.IndexFunc(look(t, g).frames, func(s string) bool { return s[0] >= api.FFlush })
		deliver(t, g, k)
	}
	keep(t, g, api.FAccepted)
	deliver(t, g, 0)
	dropAll(t, g) // FInstall gets nowhere
	wantState(t, g, 2, api.Proc{Up: true, Blocked: true, Members: 7, Suspects: 2, Row: []int{0, 0, 0}})
	cast(t, g, 1, "lost")
	deliverAll(t, g) // 0 answers, 1 is out, 2 is blocked still
	wantEvents(t, g, 0, hasInstalled(1, 5))
	wantEvents(t, g, 1, hasCast(1, 1, "lost"), api.Event{Kind: api.EExclude})
	wantState(t, g, 1, api.Proc{Up: true, Out: true, Members: 7, Held: 1, Row: []int{0, 1, 0}})
	wantEvents(t, g, 2)
	tick(t, g, 2)
	deliverAll(t, g)
	wantEvents(t, g, 2, hasInstalled(1, 5))
	before := look(t, g)
	wantErr(t, "P9: Cast", g.Cast(1, "x"), api.ErrOut)
	wantErr(t, "P11: Tick", g.Tick(1), api.ErrOut)
	wantSame(t, "P14: it does nothing any more", g, before)
}

// The leader crashes when its ballot may have been agreed on already: who comes next is for the same.
func TestAnotherOneBringsItToItsEnd(t *testing.T) {
	g := group(t, 5, 4, 200)
	cast(t, g, 0, "a")
	dropAll(t, g)
	crash(t, g, 4)
	suspect(t, g, 0, 4)
	tick(t, g, 0)
	keep(t, g, api.FFlush)
	deliverNow(t, g)
	keep(t, g, api.FState)
	deliverNow(t, g)
	a := msg(0, 1, "a", 1, 0, 0, 0, 0)
	accept := api.Frame{Kind: api.FAccept, To: 2, Ballot: 8, Members: 15, Cut: []int{1, 0, 0, 0, 0}, Msgs: []api.Msg{a}}
	if f := frameOf(t, g, 1); !reflect.DeepEqual(encode(t, f), encode(t, accept)) {
		t.Fatalf("P13: FAccept is %+v, want %+v", f, accept)
	}
	deliver(t, g, 1) // FAccept at 2 alone
	dropAll(t, g)
	crash(t, g, 0)
	for p := 1; p < 4; p++ {
		suspect(t, g, p, 0)
		wantState(t, g, p, api.Proc{Up: true, Blocked: true, Members: 31, Suspects: 17, Held: []int{0, 0, 1, 0}[p], Row: make([]int, 5)})
	}
	tick(t, g, 1)
	keep(t, g, api.FFlush)
	flush := api.Frame{Kind: api.FFlush, From: 1, Ballot: 17, Members: 17}
	f2, f3 := flush, flush
	f2.To, f3.To = 2, 3
	wantFlight(t, g, f2, f3)
	deliverNow(t, g)
	row := make([]int, 5)
	wantFlight(t, g,
		api.Frame{Kind: api.FState, From: 2, To: 1, Ballot: 17, Voted: 8, Members: 15, Cut: accept.Cut, Row: row, Msgs: []api.Msg{a}},
		api.Frame{Kind: api.FState, From: 3, To: 1, Ballot: 17, Row: row})
	deliverNow(t, g)
	accept.From, accept.Ballot = 1, 17
	a2, a3 := accept, accept
	a2.To, a3.To = 2, 3
	wantFlight(t, g, a2, a3)
	deliverAll(t, g)
	for p := 1; p < 4; p++ {
		wantEvents(t, g, p, hasGot(0, 1, "a"), hasInstalled(1, 15))
		// Of its suspects the one that is in the new view stays suspected; and so it is left out next.
		wantState(t, g, p, api.Proc{Up: true, View: 1, Members: 15, Suspects: 1, Row: row})
	}
	tick(t, g, 1)
	deliverAll(t, g)
	for p := 1; p < 4; p++ {
		wantEvents(t, g, p, hasGot(0, 1, "a"), hasInstalled(1, 15), hasInstalled(2, 14))
	}
}

// One that has missed views is told of each, one after the other.
func TestBehindByViews(t *testing.T) {
	g := group(t, 5, 4, 200)
	cast(t, g, 0, "a")
	dropAll(t, g)
	// No frame reaches 1 once it has answered.
	change := func(q int) {
		crash(t, g, q)
		suspect(t, g, 0, q)
		tick(t, g, 0)
		for g.Flight() > 0 {
			f := frameOf(t, g, 0)
			if f.To == 1 && f.Kind != api.FFlush && f.Kind != api.FAccept {
				wantErr(t, "P7: Drop", g.Drop(0), api.OK)
			} else {
				deliver(t, g, 0)
			}
		}
	}
	change(4)
	wantState(t, g, 1, api.Proc{Up: true, Blocked: true, Members: 31, Suspects: 16, Held: 1, Row: make([]int, 5)})
	wantState(t, g, 0, api.Proc{Up: true, View: 1, Members: 15, Row: make([]int, 5)})
	// Now 1 is left out, though it is up.
	suspect(t, g, 0, 1)
	tick(t, g, 0)
	for g.Flight() > 0 {
		if frameOf(t, g, 0).To == 1 {
			wantErr(t, "P7: Drop", g.Drop(0), api.OK)
		} else {
			deliver(t, g, 0)
		}
	}
	wantState(t, g, 2, api.Proc{Up: true, View: 2, Members: 13, Row: make([]int, 5)})
	tick(t, g, 1)
	keep(t, g, api.FGossip)
	deliver(t, g, 1) // at 2
	keep(t, g, api.FInstall)
	wantFlight(t, g, api.Frame{Kind: api.FInstall, From: 2, To: 1, Members: 15, Cut: []int{1, 0, 0, 0, 0}, Msgs: []api.Msg{msg(0, 1, "a", 1, 0, 0, 0, 0)}})
	deliver(t, g, 0)
	wantEvents(t, g, 1, hasGot(0, 1, "a"), hasInstalled(1, 15))
	tick(t, g, 1)
	deliverAll(t, g)
	wantEvents(t, g, 1, hasGot(0, 1, "a"), hasInstalled(1, 15), api.Event{Kind: api.EExclude, View: 1})
}

func TestAViewAheadIsIgnoredUntilItIsInstalled(t *testing.T) {
	g := group(t, 3, 4, 100)
	suspect(t, g, 0, 2)
	tick(t, g, 0)
	keep(t, g, api.FFlush)
	deliver(t, g, 0, 0, 0, 0) // FFlush, FState, FAccept, FAccepted
	cast(t, g, 0, "new")
	wantEvents(t, g, 0, hasInstalled(1, 3), in(1, hasCast(0, 1, "new")))
	deliver(t, g, 2) // "new" at 1, ahead of FInstall
	wantState(t, g, 1, api.Proc{Up: true, Blocked: true, Members: 7, Suspects: 4, Row: []int{0, 0, 0}})
	deliver(t, g, 0) // FInstall
	wantEvents(t, g, 1, hasInstalled(1, 3))
	dropAll(t, g)
	tick(t, g, 0)
	f := data(0, 1, []int{1, 0, 0}, msg(0, 1, "new", 1, 0, 0))
	f.View = 1
	h := gossip(0, 1, 1, 0, 0)
	h.View = 1
	wantFlight(t, g, h, f)
	deliverAll(t, g)
	wantEvents(t, g, 1, hasInstalled(1, 3), in(1, hasGot(0, 1, "new")))
}

// In a new view a process may cast as often as in the first one.
func TestANewViewCountsAnew(t *testing.T) {
	g := group(t, 3, 1, 100)
	for view := range 2 {
		for seq := 1; seq <= api.MaxSeq; seq++ {
			cast(t, g, 0, "x")
			deliverAll(t, g)
			for p := 1; p < 3 && state(t, g, p).Up; p++ {
				tick(t, g, p)
				deliverAll(t, g)
			}
		}
		wantErr(t, "P9: Cast", g.Cast(0, "x"), api.ErrExhausted)
		wantState(t, g, 1, api.Proc{Up: true, View: view, Members: []int{7, 3}[view], Row: []int{20, 0, 0}})
		if view == 0 {
			crash(t, g, 2)
			suspect(t, g, 0, 2)
			tick(t, g, 0)
			deliverAll(t, g)
		}
	}
}

func TestAnswersAboutViewsAreTheCallers(t *testing.T) {
	g := group(t, 3, 4, 100)
	cast(t, g, 1, "a")
	suspect(t, g, 0, 2)
	tick(t, g, 0)
	for g.Flight() > 0 {
		before := look(t, g)
		for p := range 3 {
			clear(state(t, g, p).Row)
			l, _ := g.Events(p)
			clear(l[:cap(l)])
		}
		wantSame(t, "P2: behind writing into answers", g, before)
		deliver(t, g, 0)
	}
	wantEvents(t, g, 1, hasCast(1, 1, "a"), hasInstalled(1, 3))
}
