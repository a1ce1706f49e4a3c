package wire

import (
	"strings"

	"chorus/api"
)

// reader takes a frame off the front of some bytes. It refuses nothing: behind the last byte it reads zeros,
// so that it always ends; what it read wrongly Decode finds out.
type reader struct {
	rest string
}

func (r *reader) frame() api.Frame {
	var f api.Frame
	f.Kind = r.octet()
	f.From = r.octet()
	f.To = r.octet()
	f.Members = r.octet()
	f.View = r.word()
	f.Ballot = r.word()
	f.Voted = r.word()
	f.Row = r.list()
	f.Cut = r.list()
	for range r.octet() {
		f.Msgs = append(f.Msgs, r.msg())
	}
	return f
}

func (r *reader) msg() api.Msg {
	var m api.Msg
	m.Sender = r.octet()
	m.Seq = r.octet()
	m.Time = r.list()
	m.Text = r.text()
	return m
}

func (r *reader) list() []int {
	var l []int
	for range r.octet() {
		l = append(l, r.octet())
	}
	return l
}

func (r *reader) text() string {
	n := r.octet()
	n = min(n, len(r.rest))
	// A piece of the bytes would keep what was handed in (P2).
	t := strings.Clone(r.rest[:n])
	r.rest = r.rest[n:]
	return t
}

func (r *reader) word() int {
	w := 0
	for range 4 {
		w = w<<8 | r.octet()
	}
	return w
}

func (r *reader) octet() int {
	if r.rest == "" {
		return 0
	}
	n := int(r.rest[0])
	r.rest = r.rest[1:]
	return n
}
