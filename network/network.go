// Package network: the frames that are in flight, as bytes, and what may befall them on the way.
package network

import (
	"slices"

	"chorus/api"
)

// Parcel is the bytes of a frame, and the process to which they were sent: that one stands, whatever becomes of the bytes.
type Parcel struct {
	To    int
	Bytes string
}

// Network holds the parcels in flight, the one that was sent first first.
type Network struct {
	limit   int
	parcels []Parcel
}

// New makes a network that holds limit parcels at most.
func New(limit int) Network { return Network{limit: limit} }

// Count tells how many parcels are in flight.
func (n *Network) Count() int { return len(n.parcels) }

func (n *Network) has(k int) bool { return 0 <= k && k < len(n.parcels) }

// Send puts a parcel behind all others; if the network is full, it is lost.
func (n *Network) Send(c Parcel) {
	if len(n.parcels) < n.limit {
		n.parcels = append(n.parcels, c)
	}
}

// Bytes tells the bytes of the k-th parcel.
func (n *Network) Bytes(k int) (string, api.Errno) {
	if !n.has(k) {
		return "", api.ErrNone
	}
	return n.parcels[k].Bytes, api.OK
}

// Take takes the k-th parcel out of flight.
func (n *Network) Take(k int) (Parcel, api.Errno) {
	if !n.has(k) {
		return Parcel{}, api.ErrNone
	}
	c := n.parcels[k]
	n.parcels = slices.Delete(n.parcels, k, k+1)
	return c, api.OK
}

// TakeAll takes all parcels out of flight.
func (n *Network) TakeAll() []Parcel {
	l := n.parcels
	n.parcels = nil
	return l
}

// Copy sends the k-th parcel once more.
func (n *Network) Copy(k int) api.Errno {
	if !n.has(k) {
		return api.ErrNone
	}
	n.Send(n.parcels[k])
	return api.OK
}

// Corrupt turns bits of one byte of the k-th parcel.
func (n *Network) Corrupt(k, at, bits int) api.Errno {
	if !n.has(k) {
		return api.ErrNone
	}
	b := []byte(n.parcels[k].Bytes)
	if at < 0 || at >= len(b) || bits < 1 || bits > 255 {
		return api.ErrLarge
	}
	b[at] ^= byte(bits)
	n.parcels[k].Bytes = string(b)
	return api.OK
}
