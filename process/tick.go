package process

import "chorus/api"

// Tick lets time go by at the process (P11).
func (p *Process) Tick() api.Errno {
	if e := p.able(); e != api.OK {
		return e
	}
	p.changeView()
	for _, q := range p.others() {
		p.gossip(q)
		if !p.blocked {
			p.sendMissing(q)
		}
	}
	return api.OK
}

func (p *Process) gossip(q int) {
	p.send(api.Frame{Kind: api.FGossip, To: q, View: p.view, Ballot: p.promised, Row: p.row()})
}

// sendMissing sends what is held and of which q is not known to have delivered it.
func (p *Process) sendMissing(q int) {
	for _, m := range p.heldInOrder() {
		if p.known[q][m.Sender] < m.Seq {
			p.sendData(q, m)
		}
	}
}
