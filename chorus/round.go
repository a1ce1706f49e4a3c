package chorus

import (
	"sync"

	"chorus/network"
)

// Round lets all that is in flight arrive, and then time go by, at all processes at once (P15).
func (g *Group) Round() int {
	taken := g.net.TakeAll()
	g.workAll(shares(taken, len(g.procs)))
	// Not before all are done, and by their numbers: so the order in flight does not hang on which of them is done first.
	for _, p := range g.procs {
		g.carry(p)
	}
	return len(taken)
}

// workAll lets every process work by itself on what was sent to it, and waits for all.
func (g *Group) workAll(arrivals [][]string) {
	var all sync.WaitGroup
	for i, p := range g.procs {
		all.Add(1)
		go func() {
			defer all.Done()
			p.Work(arrivals[i])
		}()
	}
	all.Wait()
}

// shares is of each process the bytes that were sent to it, in their order, whatever they say by now.
func shares(parcels []network.Parcel, procs int) [][]string {
	l := make([][]string, procs)
	for _, c := range parcels {
		l[c.To] = append(l[c.To], c.Bytes)
	}
	return l
}
