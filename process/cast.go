package process

import (
	"slices"
	"strings"

	"chorus/api"
)

// Cast casts a message to all members (P9).
func (p *Process) Cast(text string) api.Errno {
	if e := p.mayCast(text); e != api.OK {
		return e
	}
	m := p.nextOwn(text)
	p.count(m, api.ECast)
	// Not by hold: what is cast is held even if a forged message has taken its number.
	p.held[keyOf(m)] = m
	p.giveUpStable()
	for _, q := range p.others() {
		p.sendData(q, m)
	}
	return api.OK
}

func (p *Process) mayCast(text string) api.Errno {
	if e := p.able(); e != api.OK {
		return e
	}
	switch {
	case len(text) > api.MaxText:
		return api.ErrLarge
	case p.blocked:
		return api.ErrBlocked
	case p.row()[p.number] >= api.MaxSeq:
		return api.ErrExhausted
	case p.heldOfItself() >= p.window:
		return api.ErrFull
	}
	return api.OK
}

// nextOwn is the process's next message; its time counts this one too.
func (p *Process) nextOwn(text string) api.Msg {
	time := slices.Clone(p.row())
	time[p.number]++
	return api.Msg{Sender: p.number, Seq: time[p.number], Time: time, Text: strings.Clone(text)}
}

// count counts a message as delivered, and notes what has happened.
func (p *Process) count(m api.Msg, kind int) {
	p.row()[m.Sender] = m.Seq
	p.events = append(p.events, api.Event{Kind: kind, View: p.view, From: m.Sender, Seq: m.Seq, Text: m.Text})
}

// sendData sends one message with the row of the process.
func (p *Process) sendData(q int, m api.Msg) {
	p.send(api.Frame{Kind: api.FData, To: q, View: p.view, Row: p.row(), Msgs: []api.Msg{m}})
}

// deliverAll delivers what can be delivered, until nothing can (P10).
func (p *Process) deliverAll() {
	p.deliverWithin(slices.Repeat([]int{api.MaxSeq}, p.procs))
}

// deliverWithin delivers what can be delivered of the messages that the cut leaves in (P14).
func (p *Process) deliverWithin(cut []int) {
	for {
		m, ok := p.deliverable(cut)
		if !ok {
			return
		}
		p.count(m, api.EDeliver)
		p.giveUpStable()
	}
}

// deliverable is the held message of the lowest sender that can be delivered now; of one sender it can only be the next.
func (p *Process) deliverable(cut []int) (api.Msg, bool) {
	for sender, n := range p.row() {
		if m, ok := p.held[key{sender, n + 1}]; ok && within(cut, m) && p.hasSeenAhead(m) {
			return m, true
		}
	}
	return api.Msg{}, false
}

// hasSeenAhead tells whether the process has delivered all that the sender of a message had delivered of others.
func (p *Process) hasSeenAhead(m api.Msg) bool {
	for q, n := range p.row() {
		if q != m.Sender && m.Time[q] > n {
			return false
		}
	}
	return true
}
