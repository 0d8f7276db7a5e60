package herald

import (
	"slices"

	"herald/api"
)

// network carries messages; the one that was sent first is the first in flight.
type network struct {
	flight []api.Message
}

// send puts a message into flight, or loses it, if there are too many.
func (n *network) send(m api.Message) {
	if len(n.flight) < api.MaxFlight {
		n.flight = append(n.flight, m)
	}
}

func (n *network) has(k int) bool { return k >= 0 && k < len(n.flight) }

// take takes the k-th message out of flight.
func (n *network) take(k int) api.Message {
	m := n.flight[k]
	n.flight = slices.Delete(n.flight, k, k+1)
	return m
}

func (n *network) takeAll() []api.Message {
	all := n.flight
	n.flight = nil
	return all
}
