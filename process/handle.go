package process

import (
	"chorus/api"
	"chorus/wire"
)

// Arrive lets bytes arrive at the process, whatever they are (P7).
func (p *Process) Arrive(bytes string) {
	if p.able() != api.OK {
		return
	}
	f, e := wire.Decode(bytes)
	if e != api.OK || !fits(f, p.number, p.procs) {
		return
	}
	p.handle(f)
}

// handle goes by the view of a frame that is fit (P10).
func (p *Process) handle(f api.Frame) {
	switch {
	case f.View > p.view:
		return
	case f.View < p.view:
		p.handleOld(f)
	case has(p.members, f.From):
		p.handleCurrent(f)
	}
}

// handleOld tells one that is behind how the view that it speaks of has ended.
func (p *Process) handleOld(f api.Frame) {
	if f.Kind == api.FInstall {
		return
	}
	p.sendInstall(f.From, f.View, p.left[f.View])
}

// handleCurrent goes by the kind of a frame of the same view, from a member.
func (p *Process) handleCurrent(f api.Frame) {
	switch f.Kind {
	case api.FData:
		p.takeData(f)
	case api.FGossip:
		p.takeGossip(f)
	case api.FFlush:
		p.takeFlush(f)
	case api.FState:
		p.takeState(f)
	case api.FAccept:
		p.takeAccept(f)
	case api.FAccepted:
		p.takeAccepted(f)
	case api.FInstall:
		p.takeInstall(f)
	}
}

func (p *Process) takeData(f api.Frame) {
	p.learn(f.From, f.Row)
	p.hold(f.Msgs[0])
	if !p.blocked {
		p.deliverAll()
	}
}

func (p *Process) takeGossip(f api.Frame) {
	p.learn(f.From, f.Row)
	if f.Ballot > p.promised {
		p.promise(f.Ballot)
	}
}
