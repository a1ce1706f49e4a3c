package process

import "chorus/api"

// takeFlush answers one that begins to change the view (P13).
func (p *Process) takeFlush(f api.Frame) {
	if f.Ballot < p.promised {
		return
	}
	p.join(f.Ballot)
	p.suspect(f.Members)
	p.send(api.Frame{
		Kind: api.FState, To: f.From, View: p.view, Ballot: f.Ballot,
		Voted: p.vote.ballot, Members: p.vote.members, Cut: p.vote.cut,
		Row: p.row(), Msgs: p.heldInOrder(),
	})
}

// takeState gathers the answer of one that was asked (P13).
func (p *Process) takeState(f api.Frame) {
	if !p.leads(f.Ballot) || !p.lead.gathers || !has(p.lead.asked&^p.lead.answered, f.From) {
		return
	}
	p.learn(f.From, f.Row)
	p.holdAll(f.Msgs)
	p.lead.take(f.From, answer{f.Row, vote{f.Voted, f.Members, f.Cut}})
	p.voteIfGathered()
}

// voteIfGathered makes up the leader's mind as soon as it has heard enough (P13).
func (p *Process) voteIfGathered() {
	b := p.lead
	if b.answered != b.asked || !p.isMajority(b.answered) {
		return
	}
	b.gathers = false
	p.vote = b.choice()
	b.accepted = 1 << p.number
	p.sendAccept()
	p.installIfAccepted()
}

// takeAccept votes for what a leader is for (P13).
func (p *Process) takeAccept(f api.Frame) {
	if f.Ballot < p.promised {
		return
	}
	p.join(f.Ballot)
	p.vote = vote{f.Ballot, f.Members, f.Cut}
	p.holdAll(f.Msgs)
	p.send(api.Frame{Kind: api.FAccepted, To: f.From, View: p.view, Ballot: f.Ballot})
}

// takeAccepted counts one that has voted for what the leader is for (P13).
func (p *Process) takeAccepted(f api.Frame) {
	if !p.leads(f.Ballot) || p.lead.gathers || !has(p.lead.asked, f.From) {
		return
	}
	p.lead.accepted |= 1 << f.From
	p.installIfAccepted()
}

// installIfAccepted ends the view as soon as enough have voted: from then on no other end of it can be agreed on (P13).
func (p *Process) installIfAccepted() {
	if !p.isMajority(p.lead.accepted) {
		return
	}
	end := leaving{p.vote.members, p.vote.cut, p.heldWithin(p.vote.cut)}
	for _, q := range p.others() {
		p.sendInstall(q, p.view, end)
	}
	p.install(end.members, end.cut)
}
