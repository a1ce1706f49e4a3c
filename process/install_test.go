package process

import (
	"testing"

	"chorus/api"
)

func install(from, members int, cut []int, l ...api.Msg) api.Frame {
	return api.Frame{Kind: api.FInstall, From: from, Members: members, Cut: cut, Msgs: l}
}

func installed(view, members int) api.Event {
	return api.Event{Kind: api.EInstall, View: view, Members: members}
}

func TestInstallDeliversThoughBlocked(t *testing.T) {
	p := New(1, 3, 4)
	a, b, c := msg(0, 1, "a", 1, 0, 1), msg(2, 1, "b", 0, 0, 1), msg(2, 2, "c", 1, 0, 2)
	arrive(t, p, api.Frame{Kind: api.FFlush, From: 0, Ballot: 8, Members: 4})
	arrive(t, p, data(2, 1, b), data(2, 1, c))
	wantEvents(t, "P10: blocked", p)
	// "a" comes with the view; it is of a lower sender than "b" and goes ahead of all but what it hangs on.
	arrive(t, p, install(0, 3, []int{1, 0, 2}, a))
	wantEvents(t, "P14: what it can", p, got(0, 2, 1, "b"), got(0, 0, 1, "a"), got(0, 2, 2, "c"), installed(1, 3))
	wantState(t, "P14: the next view", p, api.Proc{Up: true, View: 1, Members: 3, Row: []int{0, 0, 0}})
}

func TestTheCutBars(t *testing.T) {
	a, b, c := msg(0, 1, "a", 1, 0, 0), msg(0, 2, "b", 2, 0, 0), msg(2, 1, "c", 2, 0, 1)
	for _, x := range []struct {
		cut  []int
		want []api.Event
	}{
		{[]int{2, 0, 1}, []api.Event{got(0, 0, 1, "a"), got(0, 0, 2, "b"), got(0, 2, 1, "c")}},
		{[]int{2, 0, 0}, []api.Event{got(0, 0, 1, "a"), got(0, 0, 2, "b")}},
		{[]int{1, 0, 0}, []api.Event{got(0, 0, 1, "a")}},
		{[]int{0, 0, 0}, nil},
		// "c" the cut leaves in, but what it hangs on it does not.
		{[]int{1, 0, 1}, []api.Event{got(0, 0, 1, "a")}},
		{[]int{0, 0, 1}, nil},
		{[]int{20, 20, 20}, []api.Event{got(0, 0, 1, "a"), got(0, 0, 2, "b"), got(0, 2, 1, "c")}},
	} {
		for _, inFrame := range []bool{true, false} {
			p := New(1, 3, 4)
			p.blocked = true
			if inFrame {
				arrive(t, p, install(0, 7, x.cut, c, b, a))
			} else {
				arrive(t, p, data(2, 1, c), data(0, 1, b), data(0, 1, a), install(0, 7, x.cut))
			}
			wantEvents(t, "P14: a cut", p, append(x.want, installed(1, 7))...)
		}
	}
}

func TestWhoIsNotBlockedInstallsToo(t *testing.T) {
	p := New(1, 3, 4)
	arrive(t, p, data(0, 1, msg(0, 1, "a", 1, 0, 0)), install(2, 6, []int{0, 0, 0}))
	wantEvents(t, "P14: what it has delivered stays so", p, got(0, 0, 1, "a"), installed(1, 6))
	wantState(t, "P14: the next view", p, api.Proc{Up: true, View: 1, Members: 6, Row: []int{0, 0, 0}})
}

func TestInstallNotesTheEnd(t *testing.T) {
	p := New(1, 4, 4)
	a, b := msg(0, 1, "a", 1, 0, 0, 0), msg(0, 2, "b", 2, 0, 0, 0)
	c, d := msg(2, 2, "c", 0, 0, 2, 0), msg(3, 1, "d", 0, 0, 0, 1)
	e := msg(3, 2, "e", 0, 0, 0, 2)
	arrive(t, p, data(0, 1, a), data(0, 1, b))
	// All but itself have "d": as soon as it delivers it, it is stable.
	for _, q := range []int{0, 2, 3} {
		arrive(t, p, api.Frame{Kind: api.FGossip, From: q, Row: []int{0, 0, 0, 1}})
	}
	p.Sent()
	cut := []int{1, 0, 2, 1}
	arrive(t, p, install(0, 7, cut, e, d, c))
	wantEvents(t, "P14: what it can", p, got(0, 0, 1, "a"), got(0, 0, 2, "b"), got(0, 3, 1, "d"), installed(1, 7))
	wantSent(t, "P14: FInstall", p)
	// "c" it could not deliver, but holds; "b" and "e" are above the cut; "d" was given up.
	end := api.Frame{Kind: api.FInstall, To: 3, Members: 7, Cut: cut, Msgs: []api.Msg{a, c}}
	arrive(t, p, api.Frame{Kind: api.FGossip, From: 3, Row: make([]int, 4)})
	wantSent(t, "P10: a view below", p, end)
	// What comes of the next view does not change what was noted.
	arrive(t, p, api.Frame{Kind: api.FInstall, From: 0, View: 1, Members: 3, Cut: []int{0, 0, 0, 0}})
	for _, f := range []api.Frame{
		{Kind: api.FData, From: 3, Row: make([]int, 4), Msgs: []api.Msg{d}},
		{Kind: api.FFlush, From: 3, Ballot: 11},
		{Kind: api.FState, From: 3, Ballot: 9, Row: make([]int, 4)},
		{Kind: api.FAccept, From: 3, Ballot: 11, Cut: make([]int, 4)},
		{Kind: api.FAccepted, From: 3, Ballot: 9},
	} {
		arrive(t, p, f)
		wantSent(t, "P10: a view below by two", p, end)
	}
	arrive(t, p, api.Frame{Kind: api.FGossip, From: 2, View: 1, Row: make([]int, 4)})
	wantSent(t, "P10: a view below by one", p, api.Frame{Kind: api.FInstall, To: 2, View: 1, Members: 3, Cut: []int{0, 0, 0, 0}})
}

func TestExcluded(t *testing.T) {
	p := New(1, 3, 4)
	a, b := msg(0, 1, "a", 1, 0, 0), msg(0, 2, "b", 2, 0, 0)
	arrive(t, p, api.Frame{Kind: api.FFlush, From: 2, Ballot: 8, Members: 1})
	p.Sent()
	arrive(t, p, install(0, 5, []int{1, 0, 0}, a, b))
	at := api.Proc{Up: true, Out: true, Blocked: true, Members: 7, Suspects: 1, Held: 2, Row: []int{1, 0, 0}}
	wantEvents(t, "P14: excluded", p, got(0, 0, 1, "a"), api.Event{Kind: api.EExclude})
	wantState(t, "P14: excluded", p, at)
	wantSent(t, "P14: excluded", p)
	arrive(t, p, data(0, 1, b), api.Frame{Kind: api.FFlush, From: 2, Ballot: 16}, install(0, 7, []int{2, 0, 0}))
	for what, e := range map[string]api.Errno{"Cast": p.Cast("x"), "Tick": p.Tick(), "Suspect": p.Suspect(2)} {
		if e != api.ErrOut {
			t.Errorf("P14: %s of one that was excluded = %d, want ErrOut", what, e)
		}
	}
	wantState(t, "P14: it does nothing any more", p, at)
	wantSent(t, "P14: it does nothing any more", p)
	wantEvents(t, "P14: it does nothing any more", p, got(0, 0, 1, "a"), api.Event{Kind: api.EExclude})
}

func TestExcludedFromALaterView(t *testing.T) {
	p := inView2()
	arrive(t, p, api.Frame{Kind: api.FInstall, From: 0, View: 2, Members: 9, Cut: make([]int, 4)})
	wantEvents(t, "P8: EExclude tells the view that it was in", p, api.Event{Kind: api.EExclude, View: 2})
	wantState(t, "P14: excluded", p, api.Proc{Up: true, Out: true, View: 2, Members: 11, Row: make([]int, 4)})
}

func TestTheNextViewBeginsAnew(t *testing.T) {
	p := New(0, 4, 1)
	cast(t, p, "a")
	suspect(t, p, 2, 3)
	arrive(t, p,
		api.Frame{Kind: api.FGossip, From: 1, Row: []int{0, 9, 9, 9}},
		api.Frame{Kind: api.FAccept, From: 1, Ballot: 9, Members: 15, Cut: make([]int, 4)})
	tick(t, p)
	if p.lead == nil || p.vote.ballot != 9 {
		t.Fatalf("P12: it leads %+v, and has voted %+v", p.lead, p.vote)
	}
	p.Sent()
	arrive(t, p, data(1, 0, msg(1, 2, "b", 0, 2, 0, 0)), install(1, 7, make([]int, 4)))
	wantState(t, "P14: the next view", p, api.Proc{Up: true, View: 1, Members: 7, Suspects: 4, Row: make([]int, 4)})
	wantEvents(t, "P14: the next view", p, api.Event{Kind: api.ECast, From: 0, Seq: 1, Text: "a"}, installed(1, 7))

	// Nothing is promised, voted or led; what it suspects asks for a first ballot.
	arrive(t, p, api.Frame{Kind: api.FFlush, From: 1, View: 1, Ballot: 1})
	wantSent(t, "P14: nothing is promised or voted", p, api.Frame{Kind: api.FState, To: 1, View: 1, Ballot: 1, Row: make([]int, 4)})
	arrive(t, p, api.Frame{Kind: api.FState, From: 1, View: 1, Ballot: 16, Row: make([]int, 4)})
	wantSent(t, "P14: nothing is led", p)
	tick(t, p)
	wantSent(t, "P12: the first ballot of the view", p,
		api.Frame{Kind: api.FFlush, To: 1, View: 1, Ballot: 8, Members: 4},
		api.Frame{Kind: api.FGossip, To: 1, View: 1, Ballot: 8, Row: make([]int, 4)},
		api.Frame{Kind: api.FGossip, To: 2, View: 1, Ballot: 8, Row: make([]int, 4)})
}

func TestTheNextViewKnowsNoRows(t *testing.T) {
	p := New(0, 3, 1)
	row := []int{5, 5, 5}
	arrive(t, p, api.Frame{Kind: api.FGossip, From: 1, Row: row}, api.Frame{Kind: api.FGossip, From: 2, Row: row})
	cast(t, p, "stable at once", "and this one")
	arrive(t, p, install(1, 3, make([]int, 3)))
	p.Sent()
	cast(t, p, "x")
	m := msg(0, 1, "x", 1, 0, 0)
	wantSent(t, "P9: in the next view", p, api.Frame{Kind: api.FData, To: 1, View: 1, Row: []int{1, 0, 0}, Msgs: []api.Msg{m}})
	wantState(t, "P9: in the next view", p, api.Proc{Up: true, View: 1, Members: 3, Held: 1, Row: []int{1, 0, 0}})
	if e := p.Cast("y"); e != api.ErrFull {
		t.Errorf("P9: Cast = %d, want ErrFull", e)
	}
	tick(t, p)
	wantSent(t, "P11: in the next view", p,
		api.Frame{Kind: api.FGossip, To: 1, View: 1, Row: []int{1, 0, 0}},
		api.Frame{Kind: api.FData, To: 1, View: 1, Row: []int{1, 0, 0}, Msgs: []api.Msg{m}})
	arrive(t, p, api.Frame{Kind: api.FGossip, From: 1, View: 1, Row: []int{1, 0, 0}})
	wantState(t, "P9: the members of the view have it", p, api.Proc{Up: true, View: 1, Members: 3, Row: []int{1, 0, 0}})
}

func TestAloneInTheView(t *testing.T) {
	p := New(0, 2, 1)
	suspect(t, p, 1)
	arrive(t, p, install(1, 1, []int{0, 0}))
	wantState(t, "P14: alone", p, api.Proc{Up: true, View: 1, Members: 1, Row: []int{0, 0}})
	suspect(t, p, 1)
	tick(t, p)
	wantSent(t, "P12: it has nobody to suspect", p)
	if e := p.Cast("a"); e != api.OK || p.blocked || len(p.held) != 0 {
		t.Errorf("P9: Cast of one that is alone = %d, it holds %d", e, len(p.held))
	}
}

func TestInstallHoldsAsDataDoes(t *testing.T) {
	p := inView2() // process 1; 0, 1 and 3 are members
	mine := msg(0, 2, "mine", 2, 0, 0, 0)
	p.Arrive(encode(t, api.Frame{Kind: api.FData, From: 0, To: 1, View: 2, Row: make([]int, 4), Msgs: []api.Msg{mine}}))
	p.Sent()
	arrive(t, p, api.Frame{Kind: api.FInstall, From: 0, View: 2, Members: 11, Cut: []int{9, 9, 9, 9}, Msgs: []api.Msg{
		msg(2, 1, "no member", 0, 0, 1, 0), msg(0, 2, "other", 2, 0, 0, 0), msg(3, 2, "first", 0, 0, 0, 2), msg(3, 2, "second", 0, 0, 0, 2)}})
	arrive(t, p, api.Frame{Kind: api.FGossip, From: 2, View: 2, Row: make([]int, 4)})
	wantSent(t, "P14: what it held", p, api.Frame{Kind: api.FInstall, To: 2, View: 2, Members: 11, Cut: []int{9, 9, 9, 9}, Msgs: []api.Msg{mine, msg(3, 2, "first", 0, 0, 0, 2)}})
}
