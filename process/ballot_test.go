package process

import (
	"testing"

	"chorus/api"
)

func TestSuspectErrorsInTheirOrder(t *testing.T) {
	p := New(1, 3, 4)
	p.crashed, p.out = true, true
	for _, c := range []struct {
		q    int
		want api.Errno
		mend func()
	}{
		{1, api.ErrSelf, func() {}},
		{0, api.ErrDown, func() { p.crashed = false }},
		{1, api.ErrSelf, func() {}},
		{0, api.ErrOut, func() { p.out = false }},
		{1, api.ErrSelf, func() {}},
	} {
		if e := p.Suspect(c.q); e != c.want || p.suspects != 0 {
			t.Errorf("P12: Suspect(%d) = %d, it suspects %d; want %d, and nobody", c.q, e, p.suspects, c.want)
		}
		c.mend()
	}
	suspect(t, p, 0)
	if p.suspects != 1 {
		t.Errorf("P12: it suspects %d, want 1", p.suspects)
	}
	suspect(t, p, 2, 0, 2)
	wantState(t, "P12: two are suspected", p, api.Proc{Up: true, Members: 7, Suspects: 5, Row: []int{0, 0, 0}})
	wantSent(t, "P12: Suspect", p)
}

func TestOnlyMembersAreSuspected(t *testing.T) {
	p := inView2()
	suspect(t, p, 2)
	if p.suspects != 0 {
		t.Errorf("P12: it suspects %d, though 2 is no member", p.suspects)
	}
	suspect(t, p, 3)
	if p.suspects != 8 {
		t.Errorf("P12: it suspects %d, want 8", p.suspects)
	}
}

func TestToWhomItIsUp(t *testing.T) {
	for _, c := range []struct {
		number, members, suspects int
		asks                      []int // nil: it is not up to it
	}{
		{0, 15, 0, nil},
		{1, 15, 0, nil},
		{0, 15, 2, []int{2, 3}},
		{0, 15, 8, []int{1, 2}},
		{0, 15, 12, []int{1}},
		{0, 15, 14, []int{}},
		{1, 15, 8, nil},
		{1, 15, 4, nil},
		{1, 15, 1, []int{2, 3}},
		{1, 15, 9, []int{2}},
		{2, 15, 1, nil},
		{2, 15, 2, nil},
		{2, 15, 3, []int{3}},
		{3, 15, 3, nil},
		{3, 15, 7, []int{}},
		{1, 14, 8, []int{2}},
		{2, 14, 8, nil},
		{2, 12, 8, []int{}},
		{3, 12, 4, []int{}},
		{3, 8, 0, nil},
	} {
		p := New(c.number, 4, 4)
		p.members, p.suspects = c.members, c.suspects
		tick(t, p)
		ballot := 0
		if c.asks != nil {
			ballot = 8 + c.number
		}
		var want []api.Frame
		for _, q := range c.asks {
			want = append(want, api.Frame{Kind: api.FFlush, To: q, Ballot: ballot, Members: c.suspects})
		}
		for _, q := range p.others() {
			want = append(want, api.Frame{Kind: api.FGossip, To: q, Ballot: ballot, Row: []int{0, 0, 0, 0}})
		}
		wantSent(t, "P12: Tick", p, want...)
		if p.blocked != (c.asks != nil) {
			t.Errorf("P12: %+v: blocked: %v", c, p.blocked)
		}
	}
}

func TestNumbersOfBallots(t *testing.T) {
	for _, c := range []struct{ number, promised, ballot int }{
		{0, 0, 8}, {0, 1, 8}, {0, 7, 8}, {0, 8, 16}, {0, 15, 16}, {0, 16, 24},
		{2, 0, 10}, {2, 7, 10}, {2, 8, 18}, {2, 9, 18}, {2, 10, 18}, {2, 11, 18}, {2, 15, 18}, {2, 16, 26},
		{0, api.MaxBallot - 17, api.MaxBallot - 16}, {5, api.MaxBallot - 16, api.MaxBallot - 3},
		{0, api.MaxBallot - 9, api.MaxBallot - 8}, {5, api.MaxBallot - 9, api.MaxBallot - 3},
		{0, api.MaxBallot - 8, 0}, {5, api.MaxBallot - 8, 0}, {0, api.MaxBallot - 1, 0}, {5, api.MaxBallot - 1, 0},
	} {
		p := New(c.number, 6, 4)
		p.suspect(everyone(c.number) | 1<<5) // all lower ones, so that it is up to it
		arrive(t, p, api.Frame{Kind: api.FGossip, From: 3, Ballot: c.promised, Row: make([]int, 6)})
		tick(t, p)
		is := 0
		if p.lead != nil {
			is = p.lead.number
		}
		if is != c.ballot || p.blocked != (c.ballot != 0) || p.promised != max(c.promised, c.ballot) {
			t.Errorf("P12: process %d that has promised %d leads %d (blocked: %v), and has promised %d; want %d", c.number, c.promised, is, p.blocked, p.promised, c.ballot)
		}
	}
}

func flush(to, ballot, leftOut int) api.Frame {
	return api.Frame{Kind: api.FFlush, To: to, Ballot: ballot, Members: leftOut}
}

func gossips(n, ballot int) []api.Frame {
	var l []api.Frame
	for q := 1; q < n; q++ {
		l = append(l, api.Frame{Kind: api.FGossip, To: q, Ballot: ballot, Row: make([]int, n)})
	}
	return l
}

// wantTick: at a Tick process 0 of n sends these frames, and then its gossip.
func wantTick(t *testing.T, what string, p *Process, ballot int, want ...api.Frame) {
	t.Helper()
	tick(t, p)
	wantSent(t, what, p, append(want, gossips(p.procs, ballot)...)...)
}

func stateOf(from, ballot, n int) api.Frame {
	return api.Frame{Kind: api.FState, From: from, Ballot: ballot, Row: make([]int, n)}
}

func TestFlushIsSentAgainToThoseThatHaveNotAnswered(t *testing.T) {
	p := leading(t, 5, 4)
	wantTick(t, "P12: again", p, 8, flush(1, 8, 16), flush(2, 8, 16), flush(3, 8, 16))
	arrive(t, p, stateOf(2, 8, 5))
	wantTick(t, "P12: 2 has answered", p, 8, flush(1, 8, 16), flush(3, 8, 16))
	suspect(t, p, 4)
	wantTick(t, "P12: it suspects nobody else", p, 8, flush(1, 8, 16), flush(3, 8, 16))
}

func TestOtherSuspectsAskForANewBallot(t *testing.T) {
	p := leading(t, 5, 4)
	arrive(t, p, stateOf(1, 8, 5), stateOf(2, 8, 5))
	suspect(t, p, 3)
	wantSent(t, "P12: Suspect", p)
	wantTick(t, "P12: other suspects", p, 16, flush(1, 16, 24), flush(2, 16, 24))
	arrive(t, p, stateOf(1, 8, 5), stateOf(2, 8, 5), stateOf(3, 8, 5), stateOf(3, 16, 5))
	wantSent(t, "P13: of a ballot that is not led any more", p)
	arrive(t, p, stateOf(1, 16, 5), stateOf(2, 16, 5))
	row := []int{0, 0, 0, 0, 0}
	wantSent(t, "P13: all have answered anew", p,
		api.Frame{Kind: api.FAccept, To: 1, Ballot: 16, Members: 7, Cut: row},
		api.Frame{Kind: api.FAccept, To: 2, Ballot: 16, Members: 7, Cut: row})
}

func TestOtherSuspectsBehindTheGathering(t *testing.T) {
	p := accepting(t, 5, 4)
	suspect(t, p, 3)
	wantTick(t, "P12: other suspects", p, 16, flush(1, 16, 24), flush(2, 16, 24))
	arrive(t, p, api.Frame{Kind: api.FAccepted, From: 1, Ballot: 8}, api.Frame{Kind: api.FAccepted, From: 2, Ballot: 8})
	arrive(t, p, api.Frame{Kind: api.FAccepted, From: 1, Ballot: 16}, api.Frame{Kind: api.FAccepted, From: 2, Ballot: 16})
	wantSent(t, "P13: of a ballot that is not led any more, or that still gathers", p)
	arrive(t, p, stateOf(1, 16, 5), stateOf(2, 16, 5))
	row := []int{0, 0, 0, 0, 0}
	// What it voted for in the ballot 8 it is for in 16 as well.
	wantSent(t, "P13: its own vote", p,
		api.Frame{Kind: api.FAccept, To: 1, Ballot: 16, Members: 15, Cut: row},
		api.Frame{Kind: api.FAccept, To: 2, Ballot: 16, Members: 15, Cut: row})
}

func TestTheLastBallotIsSentAgain(t *testing.T) {
	p := New(0, 5, 4)
	suspect(t, p, 4)
	arrive(t, p, api.Frame{Kind: api.FGossip, From: 1, Ballot: api.MaxBallot - 9, Row: make([]int, 5)})
	last := api.MaxBallot - 8
	wantTick(t, "P12: the last ballot", p, last, flush(1, last, 16), flush(2, last, 16), flush(3, last, 16))
	suspect(t, p, 3)
	wantTick(t, "P12: other suspects, but no other ballot", p, last, flush(1, last, 16), flush(2, last, 16), flush(3, last, 16))
}

func TestAcceptIsSentAgain(t *testing.T) {
	p := New(0, 5, 4)
	a, b, c := msg(1, 1, "a", 0, 1, 0, 0, 0), msg(4, 1, "b", 0, 0, 0, 0, 1), msg(4, 2, "c", 0, 0, 0, 0, 2)
	lead(t, p, 4)
	row := []int{0, 1, 0, 0, 1}
	arrive(t, p, stateOf(1, 8, 5), stateOf(3, 8, 5), api.Frame{Kind: api.FState, From: 2, Ballot: 8, Row: row, Msgs: []api.Msg{a}})
	accept := func(to int, l ...api.Msg) api.Frame {
		return api.Frame{Kind: api.FAccept, To: to, Ballot: 8, Members: 15, Cut: row, Msgs: l}
	}
	wantSent(t, "P13: all have answered", p, accept(1, a), accept(2, a), accept(3, a))
	arrive(t, p, api.Frame{Kind: api.FAccepted, From: 2, Ballot: 8})
	wantTick(t, "P12: 2 has accepted", p, 8, accept(1, a), accept(3, a))
	// What it holds then: what has come late is told too, but nothing above the cut.
	arrive(t, p, data(4, 0, c), data(4, 0, b))
	wantTick(t, "P12: with what it holds then", p, 8, accept(1, a, b), accept(3, a, b))
	wantState(t, "P10: blocked", p, api.Proc{Up: true, Blocked: true, Members: 31, Suspects: 16, Held: 3, Row: make([]int, 5)})
}

// Not that it can come to it by the calls; but a ballot that is led goes on.
func TestWhoLeadsGoesOn(t *testing.T) {
	p := leading(t, 5, 4)
	p.suspects = 0
	wantTick(t, "P12: it is not up to it any more", p, 8, flush(1, 8, 16), flush(2, 8, 16), flush(3, 8, 16))
	p = accepting(t, 5, 4)
	p.suspects = 0
	accept := func(to int) api.Frame {
		return api.Frame{Kind: api.FAccept, To: to, Ballot: 8, Members: 15, Cut: make([]int, 5)}
	}
	wantTick(t, "P12: it is not up to it any more", p, 8, accept(1), accept(2), accept(3))
}

func TestTickOfTheBlockedSendsNoData(t *testing.T) {
	p := New(0, 3, 4)
	cast(t, p, "a")
	p.Sent()
	suspect(t, p, 2)
	tick(t, p)
	row := []int{1, 0, 0}
	wantSent(t, "P12: a new ballot", p, flush(1, 8, 4),
		api.Frame{Kind: api.FGossip, To: 1, Ballot: 8, Row: row}, api.Frame{Kind: api.FGossip, To: 2, Ballot: 8, Row: row})
	if e := p.Cast("b"); e != api.ErrBlocked {
		t.Errorf("P9: Cast = %d, want ErrBlocked", e)
	}
	if e := p.Cast("more than sixteen"); e != api.ErrLarge {
		t.Errorf("P9: Cast = %d, want ErrLarge", e)
	}
}

func TestAHigherGossipEndsLeading(t *testing.T) {
	gossip := func(ballot int) api.Frame {
		return api.Frame{Kind: api.FGossip, From: 2, Ballot: ballot, Row: make([]int, 3)}
	}
	accept := api.Frame{Kind: api.FAccept, To: 1, Ballot: 8, Members: 3, Cut: make([]int, 3)}
	for _, ballot := range []int{0, 7, 8} {
		p := leading(t, 3, 2)
		arrive(t, p, gossip(ballot), stateOf(1, 8, 3))
		wantSent(t, "P10: a gossip that is not above", p, accept)
	}
	p := leading(t, 3, 2)
	arrive(t, p, gossip(9), stateOf(1, 8, 3))
	wantSent(t, "P10: a gossip above", p)
	wantState(t, "P10: it stays blocked", p, api.Proc{Up: true, Blocked: true, Members: 7, Suspects: 4, Row: make([]int, 3)})
	wantTick(t, "P12: it begins anew", p, 16, flush(1, 16, 4))
	p = accepting(t, 3, 2)
	arrive(t, p, gossip(9), api.Frame{Kind: api.FAccepted, From: 1, Ballot: 8})
	wantSent(t, "P10: a gossip above", p)
}
