// Package process: one process of a group: what it has delivered, what it holds, and what it knows of the others. It touches no state but its own: frames arrive at it, and those that it sends lie ready until Sent takes them.
package process

import (
	"slices"

	"chorus/api"
	"chorus/network"
	"chorus/wire"
)

// Process is what one process is at.
type Process struct {
	number, procs, window   int
	crashed, out, blocked   bool
	view, members, suspects int
	promised                int
	vote                    vote
	// lead is the ballot that this process leads, if it leads one.
	lead *ballot
	// known has of each process the row that this one knows; its own row stands among them.
	known [][]int
	held  map[key]api.Msg
	// left has of each earlier view, by its number, how this process left it.
	left   []leaving
	events []api.Event
	sent   []network.Parcel
}

// New makes a process of a group of that many, in view 0.
func New(number, procs, window int) *Process {
	p := &Process{
		number: number, procs: procs, window: window,
		members: everyone(procs),
		known:   make([][]int, procs),
		held:    make(map[key]api.Msg),
	}
	for q := range p.known {
		p.known[q] = make([]int, procs)
	}
	return p
}

// everyone is the set of all processes of a group of that many.
func everyone(procs int) int { return 1<<procs - 1 }

func has(set, q int) bool { return set>>q&1 == 1 }

// State tells what the process is at (P8).
func (p *Process) State() api.Proc {
	return api.Proc{
		Up: !p.crashed, Out: p.out, Blocked: p.blocked,
		View: p.view, Members: p.members, Suspects: p.suspects,
		Held: len(p.held),
		Row:  slices.Clone(p.row()),
	}
}

// Events tells all that has happened at the process (P8).
func (p *Process) Events() []api.Event { return slices.Clone(p.events) }

// Crash takes the process down for good (P8).
func (p *Process) Crash() api.Errno {
	if p.crashed {
		return api.ErrDown
	}
	p.crashed = true
	return api.OK
}

// able tells what keeps the process from doing anything.
func (p *Process) able() api.Errno {
	if p.crashed {
		return api.ErrDown
	}
	if p.out {
		return api.ErrOut
	}
	return api.OK
}

// others are the other members of the view, by rising numbers.
func (p *Process) others() []int { return p.list(p.members &^ (1 << p.number)) }

// list is a set, by rising numbers.
func (p *Process) list(set int) []int {
	var l []int
	for q := range p.procs {
		if has(set, q) {
			l = append(l, q)
		}
	}
	return l
}

// send makes a frame ready; it is turned into bytes at once, as the lists in it may be the process's own and go on changing.
func (p *Process) send(f api.Frame) {
	f.From = p.number
	if s, e := wire.Encode(f); e == api.OK {
		p.sent = append(p.sent, network.Parcel{To: f.To, Bytes: s})
	}
}

// Sent takes out what the process has sent since it was last asked, in the order in which it sent it.
func (p *Process) Sent() []network.Parcel {
	l := p.sent
	p.sent = nil
	return l
}
