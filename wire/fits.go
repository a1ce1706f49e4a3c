package wire

import "chorus/api"

// within tells whether n is one of low to high.
func within(n, low, high int) bool { return low <= n && n <= high }

// frameFits tells whether a frame keeps to all bounds of P4.
func frameFits(f api.Frame) bool {
	return headFits(f) && ballotsFit(f) && listFits(f.Row) && listFits(f.Cut) && msgsFit(f.Msgs)
}

func headFits(f api.Frame) bool {
	return within(f.Kind, api.FData, api.FInstall) &&
		within(f.From, 0, api.MaxProcs-1) &&
		within(f.To, 0, api.MaxProcs-1) &&
		within(f.Members, 0, 1<<api.MaxProcs-1)
}

func ballotsFit(f api.Frame) bool {
	return within(f.View, 0, api.MaxBallot-1) &&
		within(f.Ballot, 0, api.MaxBallot-1) &&
		within(f.Voted, 0, api.MaxBallot-1)
}

func listFits(l []int) bool {
	if len(l) > api.MaxProcs {
		return false
	}
	for _, n := range l {
		if !within(n, 0, api.MaxSeq) {
			return false
		}
	}
	return true
}

func msgsFit(l []api.Msg) bool {
	if len(l) > api.MaxMsgs {
		return false
	}
	for _, m := range l {
		if !msgFits(m) {
			return false
		}
	}
	return true
}

func msgFits(m api.Msg) bool {
	return within(m.Sender, 0, api.MaxProcs-1) &&
		within(m.Seq, 1, api.MaxSeq) &&
		listFits(m.Time) &&
		len(m.Text) <= api.MaxText
}
