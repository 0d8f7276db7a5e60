package herald

import (
	"slices"
	"sync"

	"herald/api"
	"herald/part"
)

// place is a part: its log, and whether it is out.
type place struct {
	log *part.Log
	out bool
}

// receive lets a marker arrive; it tells what the part sends back, if it is not out.
func (p *place) receive(marker api.Message) []api.Message {
	if p.out {
		return nil
	}
	p.log.Close(marker.Producer, marker.Txn, marker.Commit)
	ack := marker
	ack.Kind = api.MAck
	return []api.Message{ack}
}

// work receives markers until the round is over; it tells what the part sends back for them.
func (p *place) work(markers <-chan api.Message, over <-chan struct{}) []api.Message {
	var acks []api.Message
	for {
		select {
		case m := <-markers:
			acks = append(acks, p.receive(m)...)
		case <-over:
			return acks
		}
	}
}

// gather lets the parts work on the markers among these messages, each by itself. It tells all acknowledgements: those among the messages, then those of the parts, part by part.
func (h *Herald) gather(messages []api.Message) []api.Message {
	markers := make([]chan api.Message, len(h.parts))
	sent := make([][]api.Message, len(h.parts))
	over := make(chan struct{})
	var workers sync.WaitGroup
	for n := range h.parts {
		// Unbuffered: once all markers are sent all have been received, so that none can be waiting beside the end of the round.
		inbox := make(chan api.Message)
		markers[n] = inbox
		workers.Add(1)
		go func() {
			defer workers.Done()
			sent[n] = h.parts[n].work(inbox, over)
		}()
	}
	var acks []api.Message
	for _, m := range messages {
		switch m.Kind {
		case api.MMarker:
			markers[m.Part] <- m
		case api.MAck:
			acks = append(acks, m)
		}
	}
	close(over)
	workers.Wait()
	return append(acks, slices.Concat(sent...)...)
}
