package process

import (
	"math/bits"
	"slices"

	"chorus/api"
)

// ballotStep keeps the ballots of the processes apart: each takes only such as leave its own number when divided by it.
const ballotStep = 8

// vote is what a process has voted for, and in which ballot (0: in none; P12).
type vote struct {
	ballot, members int
	cut             []int
}

// answer is what one that was asked has told of itself.
type answer struct {
	row  []int
	vote vote
}

// ballot is one that the process leads.
type ballot struct {
	number  int
	gathers bool
	// Sets of members: whom it leaves out, whom it asks, and what has come of it.
	leftOut, asked, answered, accepted int
	// answers are in the order in which they came: of votes in the same ballot the first counts.
	answers []answer
}

// take notes the answer of one that was asked.
func (b *ballot) take(q int, a answer) {
	b.answered |= 1 << q
	b.answers = append(b.answers, a)
}

// choice is what the leader votes for: a view may be agreed on already, and if so, the vote in the highest ballot is for it (P13).
func (b *ballot) choice() vote {
	v := b.highestVote()
	if v.ballot == 0 {
		v = vote{members: b.asked, cut: b.greatestEntries()}
	}
	v.ballot = b.number
	return v
}

func (b *ballot) highestVote() vote {
	var v vote
	for _, a := range b.answers {
		if a.vote.ballot > v.ballot {
			v = a.vote
		}
	}
	return v
}

// greatestEntries is the cut that leaves out nothing that one of those that answered has delivered.
func (b *ballot) greatestEntries() []int {
	cut := slices.Clone(b.answers[0].row)
	for _, a := range b.answers {
		for q, n := range a.row {
			cut[q] = max(cut[q], n)
		}
	}
	return cut
}

// Suspect tells the process that another one may have crashed (P12).
func (p *Process) Suspect(q int) api.Errno {
	if q == p.number {
		return api.ErrSelf
	}
	if e := p.able(); e != api.OK {
		return e
	}
	p.suspect(1 << q)
	return api.OK
}

// suspect suspects those of a set that are other members of the view.
func (p *Process) suspect(set int) {
	p.suspects |= set & p.members &^ (1 << p.number)
}

// changeView is what time asks of the process about the change of its view (P12).
func (p *Process) changeView() {
	switch {
	case p.isUpToIt() && p.needsBallot() && p.promised < api.MaxBallot-ballotStep:
		p.begin()
	case p.lead != nil:
		p.sendAgain()
	}
}

// isUpToIt tells whether the process is the one to change the view.
func (p *Process) isUpToIt() bool {
	return p.suspects != 0 && bits.TrailingZeros(uint(p.members&^p.suspects)) == p.number
}

// needsBallot tells whether no ballot that the process leads is about those that it suspects now.
func (p *Process) needsBallot() bool {
	return p.lead == nil || p.lead.leftOut != p.suspects
}

// begin begins to lead a new ballot.
func (p *Process) begin() {
	p.join((p.promised/ballotStep+1)*ballotStep + p.number)
	p.lead = &ballot{number: p.promised, gathers: true, leftOut: p.suspects, asked: p.members &^ p.suspects}
	p.lead.take(p.number, answer{slices.Clone(p.row()), p.vote})
	p.sendFlush()
	p.voteIfGathered()
}

// sendAgain sends what those that were asked may not have got.
func (p *Process) sendAgain() {
	if p.lead.gathers {
		p.sendFlush()
	} else {
		p.sendAccept()
	}
}

// sendFlush asks those that have not answered.
func (p *Process) sendFlush() {
	b := p.lead
	for _, q := range p.list(b.asked &^ b.answered) {
		p.send(api.Frame{Kind: api.FFlush, To: q, View: p.view, Ballot: b.number, Members: b.leftOut})
	}
}

// sendAccept tells those that have not accepted what to vote for.
func (p *Process) sendAccept() {
	b := p.lead
	msgs := p.heldWithin(p.vote.cut)
	for _, q := range p.list(b.asked &^ b.accepted) {
		p.send(api.Frame{Kind: api.FAccept, To: q, View: p.view, Ballot: b.number, Members: p.vote.members, Cut: p.vote.cut, Msgs: msgs})
	}
}

// promise takes the process away from all lower ballots, and from leading another one.
func (p *Process) promise(number int) {
	p.promised = number
	if !p.leads(number) {
		p.lead = nil
	}
}

// join promises a ballot and waits for what comes of it.
func (p *Process) join(number int) {
	p.promise(number)
	p.blocked = true
}

func (p *Process) leads(number int) bool {
	return p.lead != nil && p.lead.number == number
}

// isMajority tells whether a set of members is more than half of the view.
func (p *Process) isMajority(set int) bool {
	return 2*bits.OnesCount(uint(set)) > bits.OnesCount(uint(p.members))
}
