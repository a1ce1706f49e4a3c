package process

import "chorus/api"

// fits tells whether a frame is fit for process p of a group of n (P7).
func fits(f api.Frame, p, n int) bool {
	return f.To == p && f.From != p && f.From < n &&
		f.Members&^everyone(n) == 0 &&
		fullOrNone(f.Row, n) && fullOrNone(f.Cut, n) &&
		msgsFit(f.Msgs, n) && kindFits(f, n)
}

// fullOrNone tells whether a list has an entry for each process, or none at all.
func fullOrNone(l []int, n int) bool { return len(l) == n || len(l) == 0 }

func msgsFit(l []api.Msg, n int) bool {
	for _, m := range l {
		if m.Sender >= n || len(m.Time) != n || m.Time[m.Sender] != m.Seq {
			return false
		}
	}
	return true
}

// kindFits tells whether a frame has what its kind cannot do without.
func kindFits(f api.Frame, n int) bool {
	row, cut, ballot := len(f.Row) == n, len(f.Cut) == n, f.Ballot != 0
	switch f.Kind {
	case api.FData:
		return row && len(f.Msgs) == 1
	case api.FGossip:
		return row
	case api.FFlush, api.FAccepted:
		return ballot
	case api.FState:
		return ballot && row && (cut || f.Voted == 0)
	case api.FAccept:
		return ballot && cut
	case api.FInstall:
		return cut
	}
	return false
}
