package process

import "chorus/api"

// leaving is what was agreed on about the end of a view, for those that ask later.
type leaving struct {
	members int
	cut     []int
	msgs    []api.Msg
}

// sendInstall tells how a view has ended.
func (p *Process) sendInstall(q, view int, end leaving) {
	p.send(api.Frame{Kind: api.FInstall, To: q, View: view, Members: end.members, Cut: end.cut, Msgs: end.msgs})
}

// takeInstall ends the view as it was agreed on (P14).
func (p *Process) takeInstall(f api.Frame) {
	p.holdAll(f.Msgs)
	p.install(f.Members, f.Cut)
}

// install delivers what belongs to the view, and leaves it (P14).
func (p *Process) install(members int, cut []int) {
	p.deliverWithin(cut)
	p.left = append(p.left, leaving{members, cut, p.heldWithin(cut)})
	if has(members, p.number) {
		p.enter(members)
	} else {
		p.exclude()
	}
}

func (p *Process) exclude() {
	p.out = true
	p.events = append(p.events, api.Event{Kind: api.EExclude, View: p.view})
}

// enter begins the next view; of what the process was at in this one nothing but suspicions goes on.
func (p *Process) enter(members int) {
	p.view++
	p.members = members
	p.suspects &= members
	p.blocked, p.promised, p.vote, p.lead = false, 0, vote{}, nil
	for _, row := range p.known {
		clear(row)
	}
	clear(p.held)
	p.events = append(p.events, api.Event{Kind: api.EInstall, View: p.view, Members: members})
}
