package process

// Work is the process's part in a round: all that was sent to it arrives, in its order, and then time goes by (P15). Who has crashed or was excluded, be it by one of these frames, does nothing in either.
func (p *Process) Work(arrivals []string) {
	for _, s := range arrivals {
		p.Arrive(s)
	}
	p.Tick()
}
