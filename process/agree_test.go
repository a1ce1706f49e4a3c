package process

import (
	"fmt"
	"testing"

	"chorus/api"
)

func TestFlushIsAnswered(t *testing.T) {
	p := New(1, 3, 4)
	a, b, c := msg(0, 2, "a", 2, 0, 0), msg(2, 1, "b", 0, 0, 1), msg(1, 1, "c", 0, 1, 1)
	arrive(t, p, data(0, 1, a), data(2, 1, b)) // "a" is held, "b" delivered
	cast(t, p, "c")
	p.Sent()
	f := api.Frame{Kind: api.FFlush, From: 0, Ballot: 8, Members: 4}
	arrive(t, p, f)
	answer := api.Frame{Kind: api.FState, To: 0, Ballot: 8, Row: []int{0, 1, 1}, Msgs: []api.Msg{a, c, b}}
	wantSent(t, "P13: FFlush", p, answer)
	at := api.Proc{Up: true, Blocked: true, Members: 7, Suspects: 4, Held: 3, Row: []int{0, 1, 1}}
	wantState(t, "P13: FFlush", p, at)
	arrive(t, p, f)
	wantSent(t, "P13: FFlush that came twice", p, answer)
	wantState(t, "P13: FFlush that came twice", p, at)
	tick(t, p)
	row := []int{0, 1, 1}
	wantSent(t, "P11: it has promised", p, api.Frame{Kind: api.FGossip, To: 0, Ballot: 8, Row: row}, api.Frame{Kind: api.FGossip, To: 2, Ballot: 8, Row: row})
}

// promised is process 1 of 3 that has promised the ballot 16, and nothing else.
func promised(t *testing.T) func() *Process {
	return func() *Process {
		p := New(1, 3, 4)
		arrive(t, p, api.Frame{Kind: api.FGossip, From: 0, Ballot: 16, Row: make([]int, 3)})
		return p
	}
}

func TestBallotsBelowAreIgnored(t *testing.T) {
	fresh := promised(t)
	m := []api.Msg{msg(0, 1, "a", 1, 0, 0)}
	cut := []int{1, 1, 1}
	for _, ballot := range []int{1, 8, 9, 15} {
		wantIgnored(t, "P13: a ballot below", fresh,
			api.Frame{Kind: api.FFlush, Ballot: ballot, Members: 4},
			api.Frame{Kind: api.FAccept, Ballot: ballot, Members: 3, Cut: cut, Msgs: m})
	}
	for _, ballot := range []int{16, 17, api.MaxBallot - 1} {
		p := fresh()
		arrive(t, p, api.Frame{Kind: api.FFlush, Ballot: ballot})
		wantSent(t, "P13: a ballot not below", p, api.Frame{Kind: api.FState, Ballot: ballot, Row: make([]int, 3)})
		if p.promised != ballot || !p.blocked {
			t.Errorf("P13: behind FFlush of %d it has promised %d, blocked: %v", ballot, p.promised, p.blocked)
		}
		p = fresh()
		arrive(t, p, api.Frame{Kind: api.FAccept, Ballot: ballot, Cut: cut})
		wantSent(t, "P13: a ballot not below", p, api.Frame{Kind: api.FAccepted, Ballot: ballot})
		if p.promised != ballot || !p.blocked {
			t.Errorf("P13: behind FAccept of %d it has promised %d, blocked: %v", ballot, p.promised, p.blocked)
		}
	}
}

func TestFlushTellsWhomToSuspect(t *testing.T) {
	p := inView2() // process 1; 0, 1 and 3 are members
	suspect(t, p, 0)
	arrive(t, p, api.Frame{Kind: api.FFlush, From: 3, View: 2, Ballot: 11, Members: 2 | 4})
	if p.suspects != 1 {
		t.Errorf("P13: it suspects %d; itself, and one that is no member, it does not", p.suspects)
	}
	arrive(t, p, api.Frame{Kind: api.FFlush, From: 3, View: 2, Ballot: 11, Members: 15})
	if p.suspects != 1|8 {
		t.Errorf("P13: it suspects %d, want 9", p.suspects)
	}
	arrive(t, p, api.Frame{Kind: api.FFlush, From: 3, View: 2, Ballot: 11})
	if p.suspects != 1|8 {
		t.Errorf("P12: it suspects %d; a suspicion stays", p.suspects)
	}
}

func TestFlushTellsTheVote(t *testing.T) {
	p := New(1, 3, 4)
	arrive(t, p,
		api.Frame{Kind: api.FAccept, From: 0, Ballot: 8, Members: 3, Cut: []int{1, 2, 3}},
		api.Frame{Kind: api.FFlush, From: 2, Ballot: 10})
	voted := api.Frame{Kind: api.FState, To: 2, Ballot: 10, Voted: 8, Members: 3, Cut: []int{1, 2, 3}, Row: make([]int, 3)}
	wantSent(t, "P13: it has voted", p, api.Frame{Kind: api.FAccepted, To: 0, Ballot: 8}, voted)
	again := voted
	again.To, again.Ballot = 0, 16
	arrive(t, p, api.Frame{Kind: api.FFlush, From: 0, Ballot: 16}, api.Frame{Kind: api.FFlush, From: 2, Ballot: 10})
	wantSent(t, "P13: the same vote in another ballot", p, again)
	arrive(t, p,
		api.Frame{Kind: api.FAccept, From: 2, Ballot: 18, Members: 6, Cut: []int{0, 0, 0}},
		api.Frame{Kind: api.FAccept, From: 0, Ballot: 16, Members: 5, Cut: []int{9, 9, 9}},
		api.Frame{Kind: api.FFlush, From: 0, Ballot: 24})
	wantSent(t, "P13: it has voted anew", p, api.Frame{Kind: api.FAccepted, To: 2, Ballot: 18},
		api.Frame{Kind: api.FState, To: 0, Ballot: 24, Voted: 18, Members: 6, Cut: []int{0, 0, 0}, Row: make([]int, 3)})
}

func TestFlushAndAcceptEndLeading(t *testing.T) {
	for _, kind := range []int{api.FFlush, api.FAccept} {
		f := api.Frame{Kind: kind, From: 1, Ballot: 9, Cut: make([]int, 4)}
		p := leading(t, 4, 3)
		arrive(t, p, f)
		p.Sent()
		arrive(t, p, stateOf(1, 8, 4), stateOf(2, 8, 4))
		wantSent(t, "P13: it leads 8 no more", p)
		wantTick(t, "P12: it begins anew", p, 16, flush(1, 16, 8), flush(2, 16, 8))
		// The ballot that it leads itself ends nothing.
		f.Ballot, f.Members = 8, 8
		p = leading(t, 4, 3)
		arrive(t, p, f)
		p.Sent()
		arrive(t, p, stateOf(1, 8, 4), stateOf(2, 8, 4))
		accept := api.Frame{Kind: api.FAccept, Ballot: 8, Members: 7, Cut: make([]int, 4)}
		first, second := accept, accept
		first.To, second.To = 1, 2
		wantSent(t, "P13: it leads 8 still", p, first, second)
	}
}

func TestStatesThatAreIgnored(t *testing.T) {
	row, m := []int{2, 2, 2, 2, 2}, []api.Msg{msg(1, 1, "a", 0, 1, 0, 0, 0)}
	state := func(from, ballot int) api.Frame {
		return api.Frame{Kind: api.FState, From: from, Ballot: ballot, Voted: 7, Members: 1, Cut: row, Row: row, Msgs: m}
	}
	wantIgnored(t, "P13: it leads nothing", func() *Process { return New(0, 5, 4) }, state(1, 8), state(1, 1))
	wantIgnored(t, "P13: a ballot that it does not lead", func() *Process { return leading(t, 5, 4) },
		state(1, 1), state(1, 7), state(1, 9), state(1, 16))
	wantIgnored(t, "P13: from one that was not asked", func() *Process { return leading(t, 5, 4) }, state(4, 8))
	wantIgnored(t, "P13: came twice", func() *Process {
		p := leading(t, 5, 4)
		arrive(t, p, stateOf(1, 8, 5))
		return p
	}, state(1, 8))
	wantIgnored(t, "P13: it gathers no more", func() *Process { return accepting(t, 5, 4) }, state(1, 8), state(2, 8), state(4, 8))
}

func TestStateTeaches(t *testing.T) {
	p := New(0, 4, 4)
	cast(t, p, "a")
	lead(t, p, 3)
	b := msg(1, 1, "b", 1, 1, 0, 0)
	arrive(t, p, api.Frame{Kind: api.FState, From: 1, Ballot: 8, Row: []int{1, 1, 0, 0}, Msgs: []api.Msg{b}})
	wantState(t, "P13: it holds, and is blocked", p, api.Proc{Up: true, Blocked: true, Members: 15, Suspects: 8, Held: 2, Row: []int{1, 0, 0, 0}})
	if fmt.Sprint(p.known[1]) != "[1 1 0 0]" {
		t.Errorf("P13: of 1's row it knows %v", p.known[1])
	}
	// A message that by the row told with it all members have is given up.
	for _, q := range []int{2, 3} {
		arrive(t, p, api.Frame{Kind: api.FGossip, From: q, Row: []int{1, 0, 0, 0}})
	}
	wantState(t, "P9: stable", p, api.Proc{Up: true, Blocked: true, Members: 15, Suspects: 8, Held: 1, Row: []int{1, 0, 0, 0}})
}

func TestStateHoldsOnlyOfMembers(t *testing.T) {
	p := New(0, 4, 4)
	p.members = 7
	lead(t, p, 2)
	arrive(t, p, api.Frame{Kind: api.FState, From: 1, Ballot: 8, Row: make([]int, 4), Msgs: []api.Msg{
		msg(3, 1, "no member", 0, 0, 0, 1), msg(2, 1, "member", 0, 0, 1, 0), msg(2, 1, "again", 0, 0, 1, 0)}})
	if l := p.heldInOrder(); len(l) != 1 || l[0].Text != "member" {
		t.Errorf("P13: it holds %+v", l)
	}
}

func TestMoreThanHalfMustAnswer(t *testing.T) {
	for members := 2; members <= 6; members++ {
		for out := 1; out < members; out++ {
			// The view may be smaller than the group.
			for procs := members; procs <= 6; procs++ {
				p := New(0, procs, 4)
				p.members = everyone(members)
				p.suspect(everyone(members) &^ everyone(members-out))
				tick(t, p)
				p.Sent()
				asked := members - out
				for q := 1; q < asked; q++ {
					wantSent(t, "P13: not all have answered", p)
					arrive(t, p, stateOf(q, 8, procs))
				}
				var want []api.Frame
				for q := 1; q < asked && 2*asked > members; q++ {
					want = append(want, api.Frame{Kind: api.FAccept, To: q, Ballot: 8, Members: everyone(asked), Cut: make([]int, procs)})
				}
				wantSent(t, fmt.Sprintf("P13: %d of %d members have answered", asked, members), p, want...)
				if p.view != 0 || !p.blocked {
					t.Errorf("P13: nobody has accepted, and it is in view %d", p.view)
				}
			}
		}
	}
}

func TestCutIsTheGreatestOfEachEntry(t *testing.T) {
	p := New(0, 4, 4)
	cast(t, p, "a")
	lead(t, p, 3)
	// Of 3, which is left out, a row is known that nobody who answers has.
	arrive(t, p, api.Frame{Kind: api.FGossip, From: 3, Row: []int{1, 5, 5, 5}})
	b, c, d := msg(2, 1, "b", 0, 0, 1, 0), msg(2, 2, "c", 0, 0, 2, 0), msg(3, 1, "d", 0, 0, 0, 1)
	arrive(t, p,
		api.Frame{Kind: api.FState, From: 2, Ballot: 8, Row: []int{0, 0, 1, 2}, Msgs: []api.Msg{b, c}},
		api.Frame{Kind: api.FState, From: 1, Ballot: 8, Row: []int{0, 3, 0, 1}, Msgs: []api.Msg{d}})
	a := msg(0, 1, "a", 1, 0, 0, 0)
	cut := []int{1, 3, 1, 2}
	wantSent(t, "P13: the cut", p,
		api.Frame{Kind: api.FAccept, To: 1, Ballot: 8, Members: 7, Cut: cut, Msgs: []api.Msg{a, b, d}},
		api.Frame{Kind: api.FAccept, To: 2, Ballot: 8, Members: 7, Cut: cut, Msgs: []api.Msg{a, b, d}})
}

// An answer is what was told in it, whatever else is known of the one that answers.
func TestCutIsOfTheAnswers(t *testing.T) {
	p := leading(t, 3, 2)
	arrive(t, p, api.Frame{Kind: api.FGossip, From: 1, Row: []int{0, 4, 4}})
	arrive(t, p, api.Frame{Kind: api.FState, From: 1, Ballot: 8, Row: []int{0, 1, 0}})
	wantSent(t, "P13: the cut", p, api.Frame{Kind: api.FAccept, To: 1, Ballot: 8, Members: 3, Cut: []int{0, 1, 0}})
}

func voted(from, ballot, members int, cut ...int) api.Frame {
	f := stateOf(from, 24, len(cut))
	f.Voted, f.Members, f.Cut = ballot, members, cut
	return f
}

func TestTheHighestVoteCounts(t *testing.T) {
	cut := func(n int) []int { return []int{n, n, n, n, n} }
	for _, c := range []struct {
		what    string
		own     int // the ballot that it has voted in, for Members 1 and a Cut of 1s
		answers []api.Frame
		members int
		cut     []int
	}{
		{"nobody", 0, []api.Frame{voted(1, 0, 0, cut(0)...), stateOf(2, 24, 5), stateOf(3, 24, 5)}, 15, cut(0)},
		{"Members and Cut, but no vote", 0, []api.Frame{voted(1, 0, 9, cut(9)...), stateOf(2, 24, 5), stateOf(3, 24, 5)}, 15, cut(0)},
		{"itself", 8, []api.Frame{stateOf(1, 24, 5), stateOf(2, 24, 5), stateOf(3, 24, 5)}, 1, cut(1)},
		{"one", 0, []api.Frame{stateOf(1, 24, 5), voted(2, 9, 5, cut(2)...), stateOf(3, 24, 5)}, 5, cut(2)},
		{"the last", 0, []api.Frame{stateOf(1, 24, 5), stateOf(2, 24, 5), voted(3, 1, 31, cut(3)...)}, 31, cut(3)},
		{"the higher one first", 8, []api.Frame{voted(1, 10, 2, cut(2)...), voted(2, 9, 3, cut(3)...), voted(3, 8, 4, cut(4)...)}, 2, cut(2)},
		{"the higher one last", 8, []api.Frame{voted(1, 8, 2, cut(2)...), voted(2, 9, 3, cut(3)...), voted(3, 10, 4, cut(4)...)}, 4, cut(4)},
		{"above all ballots", 8, []api.Frame{voted(1, 9, 2, cut(2)...), voted(2, api.MaxBallot-1, 3, cut(3)...), voted(3, 10, 4, cut(4)...)}, 3, cut(3)},
		{"two the same", 0, []api.Frame{voted(2, 9, 2, cut(2)...), voted(1, 9, 3, cut(3)...), stateOf(3, 24, 5)}, 2, cut(2)},
		{"two the same, behind a lower one", 8, []api.Frame{voted(3, 9, 2, cut(2)...), voted(1, 9, 3, cut(3)...), stateOf(2, 24, 5)}, 2, cut(2)},
		{"the same as itself", 9, []api.Frame{voted(1, 9, 2, cut(2)...), voted(2, 9, 3, cut(3)...), stateOf(3, 24, 5)}, 1, cut(1)},
	} {
		p := New(0, 5, 4)
		suspect(t, p, 4)
		if c.own != 0 {
			arrive(t, p, api.Frame{Kind: api.FAccept, From: 1, Ballot: c.own, Members: 1, Cut: cut(1)})
		}
		arrive(t, p, api.Frame{Kind: api.FGossip, From: 1, Ballot: 23, Row: make([]int, 5)})
		tick(t, p)
		p.Sent()
		arrive(t, p, c.answers...)
		var want []api.Frame
		for q := 1; q < 4; q++ {
			want = append(want, api.Frame{Kind: api.FAccept, To: q, Ballot: 24, Members: c.members, Cut: c.cut})
		}
		wantSent(t, "P13: voted has "+c.what, p, want...)
		// And that is its own vote by now.
		arrive(t, p, api.Frame{Kind: api.FFlush, From: 1, Ballot: 25})
		wantSent(t, "P13: the leader's vote, where voted had "+c.what, p,
			api.Frame{Kind: api.FState, To: 1, Ballot: 25, Voted: 24, Members: c.members, Cut: c.cut, Row: make([]int, 5)})
	}
}

func TestAcceptIsAnswered(t *testing.T) {
	p := New(1, 3, 4)
	a := msg(0, 1, "a", 1, 0, 0)
	f := api.Frame{Kind: api.FAccept, From: 2, Ballot: 10, Members: 6, Cut: []int{1, 0, 0}, Row: []int{9, 9, 9}, Msgs: []api.Msg{a}}
	at := api.Proc{Up: true, Blocked: true, Members: 7, Held: 1, Row: make([]int, 3)}
	for range 2 {
		arrive(t, p, f)
		wantSent(t, "P13: FAccept", p, api.Frame{Kind: api.FAccepted, To: 2, Ballot: 10})
		wantState(t, "P13: FAccept", p, at)
	}
	if fmt.Sprint(p.known[2]) != "[0 0 0]" {
		t.Errorf("P13: by FAccept it has learnt %v", p.known[2])
	}
	if e := p.Cast("x"); e != api.ErrBlocked {
		t.Errorf("P9: Cast = %d, want ErrBlocked", e)
	}
}

func TestAcceptInTheBallotThatItLeads(t *testing.T) {
	forged := api.Frame{Kind: api.FAccept, From: 2, Ballot: 8, Members: 5, Cut: []int{1, 1, 1, 1}}
	accept := func(to, members int, cut ...int) api.Frame {
		return api.Frame{Kind: api.FAccept, To: to, Ballot: 8, Members: members, Cut: cut}
	}
	accepted := api.Frame{Kind: api.FAccepted, To: 2, Ballot: 8}

	p := accepting(t, 4, 3)
	arrive(t, p, forged)
	wantSent(t, "P13: FAccept in the ballot that it leads", p, accepted)
	wantTick(t, "P13: from then on", p, 8, accept(1, 5, 1, 1, 1, 1), accept(2, 5, 1, 1, 1, 1))
	arrive(t, p, api.Frame{Kind: api.FAccepted, From: 1, Ballot: 8}, api.Frame{Kind: api.FAccepted, From: 2, Ballot: 8})
	install := api.Frame{Kind: api.FInstall, Members: 5, Cut: []int{1, 1, 1, 1}}
	var want []api.Frame
	for install.To = 1; install.To < 4; install.To++ {
		want = append(want, install)
	}
	wantSent(t, "P13: what it tells", p, want...)
	wantState(t, "P13: what it installs", p, api.Proc{Up: true, View: 1, Members: 5, Row: make([]int, 4)})

	p = leading(t, 4, 3)
	arrive(t, p, forged)
	wantSent(t, "P13: FAccept while it gathers", p, accepted)
	wantTick(t, "P13: it gathers still", p, 8, flush(1, 8, 8), flush(2, 8, 8))
	arrive(t, p, stateOf(1, 8, 4), stateOf(2, 8, 4))
	wantSent(t, "P13: the vote that it makes then", p, accept(1, 7, 0, 0, 0, 0), accept(2, 7, 0, 0, 0, 0))
}

func TestAcceptedThatAreIgnored(t *testing.T) {
	accepted := func(from, ballot int) api.Frame {
		return api.Frame{Kind: api.FAccepted, From: from, Ballot: ballot}
	}
	// One more would be enough.
	nearly := func() *Process {
		p := accepting(t, 5, 4)
		arrive(t, p, accepted(1, 8))
		return p
	}
	wantIgnored(t, "P13: a ballot that it does not lead", nearly, accepted(2, 1), accepted(2, 7), accepted(2, 9), accepted(2, 16))
	wantIgnored(t, "P13: from one that was not asked", nearly, accepted(4, 8))
	wantIgnored(t, "P13: came twice", nearly, accepted(1, 8))
	wantIgnored(t, "P13: it gathers still", func() *Process { return leading(t, 5, 4) }, accepted(1, 8), accepted(2, 8), accepted(4, 8))
	wantIgnored(t, "P13: it leads nothing", func() *Process { return New(0, 5, 4) }, accepted(1, 8), accepted(1, 1))

	// What came while it gathered does not count later.
	p := leading(t, 3, 2)
	arrive(t, p, accepted(1, 8), stateOf(1, 8, 3))
	if p.view != 0 {
		t.Errorf("P13: FAccepted that came too early counts")
	}
	arrive(t, p, accepted(1, 8))
	if p.view != 1 {
		t.Errorf("P13: enough have accepted, and it is in view %d", p.view)
	}
}

func TestMoreThanHalfMustAccept(t *testing.T) {
	for n := 3; n <= 6; n++ {
		p := accepting(t, n, n-1)
		for q := 1; q < n-1; q++ {
			if enough := 2*q > n; (p.view == 1) != enough {
				t.Errorf("P13: %d of %d have accepted, it is in view %d", q, n, p.view)
			}
			arrive(t, p, api.Frame{Kind: api.FAccepted, From: q, Ballot: 8})
		}
		wantEvents(t, "P13: enough have accepted", p, api.Event{Kind: api.EInstall, View: 1, Members: everyone(n - 1)})
	}
}

func TestInstallIsToldToAllMembers(t *testing.T) {
	p := New(0, 5, 4)
	p.members = 1 | 2 | 8 | 16
	a, b, c := msg(0, 1, "a", 1, 0, 0, 0, 0), msg(4, 1, "b", 0, 0, 0, 0, 1), msg(1, 1, "c", 0, 1, 0, 0, 0)
	cast(t, p, "a")
	suspect(t, p, 4)
	tick(t, p)
	arrive(t, p, stateOf(1, 8, 5), api.Frame{Kind: api.FState, From: 3, Ballot: 8, Row: []int{0, 0, 0, 0, 1}})
	p.Sent()
	arrive(t, p, data(4, 0, b), data(1, 0, c))
	wantEvents(t, "P10: blocked", p, api.Event{Kind: api.ECast, From: 0, Seq: 1, Text: "a"})
	arrive(t, p, api.Frame{Kind: api.FAccepted, From: 3, Ballot: 8}, api.Frame{Kind: api.FAccepted, From: 1, Ballot: 8})
	var want []api.Frame
	for _, q := range []int{1, 3, 4} {
		want = append(want, api.Frame{Kind: api.FInstall, To: q, Members: 1 | 2 | 8, Cut: []int{1, 0, 0, 0, 1}, Msgs: []api.Msg{a, b}})
	}
	wantSent(t, "P13: enough have accepted", p, want...)
	wantEvents(t, "P14: the leader installs it too", p, api.Event{Kind: api.ECast, From: 0, Seq: 1, Text: "a"},
		got(0, 4, 1, "b"), api.Event{Kind: api.EInstall, View: 1, Members: 1 | 2 | 8})
	arrive(t, p, api.Frame{Kind: api.FAccepted, From: 3, Ballot: 8, View: 1})
	wantSent(t, "P14: it leads nothing", p)
}

// What was voted for may leave out the one that brings it to its end.
func TestTheLeaderMayBeExcluded(t *testing.T) {
	p := leading(t, 3, 2)
	arrive(t, p, api.Frame{Kind: api.FState, From: 1, Ballot: 8, Voted: 1, Members: 6, Cut: []int{0, 1, 0}, Row: make([]int, 3)})
	wantSent(t, "P13: the vote", p, api.Frame{Kind: api.FAccept, To: 1, Ballot: 8, Members: 6, Cut: []int{0, 1, 0}})
	arrive(t, p, api.Frame{Kind: api.FAccepted, From: 1, Ballot: 8})
	wantSent(t, "P13: enough have accepted", p,
		api.Frame{Kind: api.FInstall, To: 1, Members: 6, Cut: []int{0, 1, 0}},
		api.Frame{Kind: api.FInstall, To: 2, Members: 6, Cut: []int{0, 1, 0}})
	wantEvents(t, "P14: excluded", p, api.Event{Kind: api.EExclude})
	if e := p.Tick(); e != api.ErrOut {
		t.Errorf("P14: Tick of one that was excluded = %d, want ErrOut", e)
	}
}

func TestBallotFramesOfTheNextViewsTellThatView(t *testing.T) {
	p := inView2() // process 1; 0, 1 and 3 are members
	suspect(t, p, 0)
	tick(t, p)
	row := []int{0, 0, 0, 0}
	wantSent(t, "P12: in view 2", p,
		api.Frame{Kind: api.FFlush, To: 3, View: 2, Ballot: 9, Members: 1},
		api.Frame{Kind: api.FGossip, To: 0, View: 2, Ballot: 9, Row: row},
		api.Frame{Kind: api.FGossip, To: 3, View: 2, Ballot: 9, Row: row})
	arrive(t, p, api.Frame{Kind: api.FState, From: 3, View: 2, Ballot: 9, Row: row})
	wantSent(t, "P13: in view 2", p, api.Frame{Kind: api.FAccept, To: 3, View: 2, Ballot: 9, Members: 2 | 8, Cut: row})
	arrive(t, p, api.Frame{Kind: api.FAccepted, From: 3, View: 2, Ballot: 9})
	install := api.Frame{Kind: api.FInstall, View: 2, Members: 2 | 8, Cut: row}
	first, second := install, install
	first.To, second.To = 0, 3
	wantSent(t, "P13: in view 2", p, first, second)
	wantEvents(t, "P14: the next view", p, api.Event{Kind: api.EInstall, View: 3, Members: 2 | 8})

	p = inView2()
	arrive(t, p, api.Frame{Kind: api.FFlush, From: 0, View: 2, Ballot: 8, Members: 8},
		api.Frame{Kind: api.FAccept, From: 0, View: 2, Ballot: 8, Members: 3, Cut: row})
	wantSent(t, "P13: in view 2", p, api.Frame{Kind: api.FState, To: 0, View: 2, Ballot: 8, Row: row},
		api.Frame{Kind: api.FAccepted, To: 0, View: 2, Ballot: 8})
}
