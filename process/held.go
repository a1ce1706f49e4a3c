package process

import (
	"cmp"
	"maps"
	"slices"

	"chorus/api"
)

// key tells a message within its view.
type key struct{ sender, seq int }

func keyOf(m api.Msg) key { return key{m.Sender, m.Seq} }

func compareKeys(a, b key) int {
	return cmp.Or(cmp.Compare(a.sender, b.sender), cmp.Compare(a.seq, b.seq))
}

// row is of each process how many of its messages this one has delivered in this view (P9).
func (p *Process) row() []int { return p.known[p.number] }

// learn raises what is known of a member's row: rows only grow, so an older one that comes late says nothing new (P10).
func (p *Process) learn(q int, row []int) {
	for i, n := range row {
		p.known[q][i] = max(p.known[q][i], n)
	}
	p.giveUpStable()
}

// stable tells whether all members are known to have delivered a message (P9).
func (p *Process) stable(k key) bool {
	for q, row := range p.known {
		if has(p.members, q) && row[k.sender] < k.seq {
			return false
		}
	}
	return true
}

// giveUpStable is to follow every growth of a row.
func (p *Process) giveUpStable() {
	maps.DeleteFunc(p.held, func(k key, _ api.Msg) bool { return p.stable(k) })
}

// hold holds a message that came from another process (P10).
func (p *Process) hold(m api.Msg) {
	k := keyOf(m)
	if _, ok := p.held[k]; ok || p.stable(k) || !has(p.members, m.Sender) {
		return
	}
	p.held[k] = m
}

// holdAll holds messages that came in one frame.
func (p *Process) holdAll(l []api.Msg) {
	for _, m := range l {
		p.hold(m)
	}
}

// heldInOrder is what is held, by senders and then by numbers.
func (p *Process) heldInOrder() []api.Msg {
	keys := make([]key, 0, len(p.held))
	for k := range p.held {
		keys = append(keys, k)
	}
	slices.SortFunc(keys, compareKeys)
	l := make([]api.Msg, len(keys))
	for i, k := range keys {
		l[i] = p.held[k]
	}
	return l
}

// within tells whether a cut leaves a message in.
func within(cut []int, m api.Msg) bool { return m.Seq <= cut[m.Sender] }

// heldWithin is what is held and the cut leaves in, in order.
func (p *Process) heldWithin(cut []int) []api.Msg {
	return slices.DeleteFunc(p.heldInOrder(), func(m api.Msg) bool { return !within(cut, m) })
}

// heldOfItself counts the messages that the process holds of its own.
func (p *Process) heldOfItself() int {
	n := 0
	for k := range p.held {
		if k.sender == p.number {
			n++
		}
	}
	return n
}
