package herald_test

import (
	"math"
	"testing"

	"herald/api"
)

// noMessage makes the calls of messages with numbers of which there is none.
func noMessage(h hand) {
	h.t.Helper()
	before := tell(h, h.c)
	for _, k := range []int{math.MinInt, math.MinInt + 1, -100, -1, h.Flight(), h.Flight() + 1, h.Flight() + 256, 1 << 32, math.MaxInt} {
		if m, e := h.Message(k); m != (api.Message{}) || e != api.ErrNone {
			h.t.Fatalf("Message(%d) = %+v, %d of %d", k, m, e, h.Flight())
		}
		h.deliver(k, api.ErrNone)
		h.drop(k, api.ErrNone)
		h.copies(k, api.ErrNone)
	}
	h.stays(before)
}

func TestNoSuchMessage(t *testing.T) { // P1, P10
	h := decided(t, plain, true, 0, 1)
	noMessage(h)
	h.crash(api.OK)
	noMessage(h)
	h.restart(api.OK)
	h.tick(api.OK)
	noMessage(h)
	h.copies(0, api.OK)
	noMessage(h)
	h.crash(api.OK)
	noMessage(h)
}

// crowd is a herald with these four markers in flight, of producers 0 and 1 for the parts 0 and 1.
func crowd(t *testing.T) (hand, [4]api.Message) {
	t.Helper()
	h := fresh(t, plain)
	for n := range 2 {
		h.init(n, 1, api.OK)
		for part := range 2 {
			h.add(n, 1, part, api.OK)
			h.produce(n, 1, part, "x", api.OK)
		}
		h.end(n, 1, n == 0, api.OK)
	}
	h.tick(api.OK)
	all := [4]api.Message{marker(0, 0, 1, true), marker(1, 0, 1, true), marker(0, 1, 1, false), marker(1, 1, 1, false)}
	h.flight(all[:]...)
	return h, all
}

func TestDrop(t *testing.T) { // P10
	for k := range 4 {
		h, m := crowd(t)
		before := h.Journal()
		h.drop(k, api.OK)
		left := append(append([]api.Message{}, m[:k]...), m[k+1:]...)
		h.flight(left...)
		h.drop(2, api.OK)
		h.flight(left[:2]...)
		h.journal(before)
		h.part(0, api.Part{End: 2, Open: []int{0, 1}})
		h.producer(0, ending(1, 1, true, 0, 1))
	}
}

func TestCopy(t *testing.T) { // P10: it is sent behind all others
	for k := range 4 {
		h, m := crowd(t)
		h.copies(k, api.OK)
		h.flight(append(m[:], m[k])...)
		h.copies(1, api.OK)
		h.flight(append(m[:], m[k], m[1])...)
		h.copies(4, api.OK) // a copy of the copy
		h.flight(append(m[:], m[k], m[1], m[k])...)
	}
}

func TestDeliverAMarker(t *testing.T) { // P10
	for k := range 4 {
		h, m := crowd(t)
		h.deliver(k, api.OK)
		left := append(append([]api.Message{}, m[:k]...), m[k+1:]...)
		h.flight(append(left, ack(m[k].Part, m[k].Producer, 1, m[k].Commit))...)
		h.entries(m[k].Part, data(0, 1, "x"), data(1, 1, "x"), closed(m[k].Producer, 1, m[k].Commit))
		h.entries(1-m[k].Part, data(0, 1, "x"), data(1, 1, "x"))
		h.producer(0, ending(1, 1, true, 0, 1)) // the keeper has not heard of it
		h.producer(1, ending(1, 1, false, 0, 1))
	}
}

func TestDeliverAnAcknowledgement(t *testing.T) { // P10, P11
	h, _ := crowd(t)
	written := h.Journal()
	for range 4 {
		h.deliver(0, api.OK)
	}
	acks := []api.Message{ack(0, 0, 1, true), ack(1, 0, 1, true), ack(0, 1, 1, false), ack(1, 1, 1, false)}
	h.flight(acks...)
	h.deliver(3, api.OK)
	h.flight(acks[:3]...)
	h.producer(0, ending(1, 1, true, 0, 1))
	h.producer(1, waiting(1, 1, false, []int{0, 1}, []int{0}))
	h.journal(written)
	h.deliver(2, api.OK)
	h.producer(1, idle(1, 1))
	written += record(4, 1, 0, 1)
	h.journal(written)
	h.deliver(0, api.OK)
	h.producer(0, waiting(1, 1, true, []int{0, 1}, []int{1}))
	h.journal(written)
	h.deliver(0, api.OK)
	h.producer(0, idle(1, 1))
	h.journal(written, record(4, 0, 0, 1))
	h.flight()
	for part := range 2 {
		h.part(part, api.Part{End: 4, Stable: 4})
		h.fetch(part, 0, 9, api.Record{Text: "x"})
	}
}

func TestALostAcknowledgement(t *testing.T) { // P10: the marker comes again, and is acknowledged again
	h := markerSent(t)
	h.deliver(0, api.OK)
	h.drop(0, api.OK)
	h.tick(api.OK)
	h.flight(marker(0, 0, 1, true))
	before, _ := h.Part(0)
	h.deliver(0, api.OK)
	h.part(0, before)
	h.flight(ack(0, 0, 1, true))
	h.deliver(0, api.OK)
	h.producer(0, idle(1, 1))
}

func TestADoubledMarker(t *testing.T) { // P10
	h := markerSent(t)
	h.copies(0, api.OK)
	h.deliver(0, api.OK)
	h.deliver(0, api.OK)
	h.entries(0, data(0, 1, "a"), closed(0, 1, true))
	h.flight(ack(0, 0, 1, true), ack(0, 0, 1, true))
	h.deliver(0, api.OK)
	h.producer(0, idle(1, 1))
	before := h.Journal()
	h.deliver(0, api.OK) // the transaction is over
	h.producer(0, idle(1, 1))
	h.journal(before)
}

func TestADoubledAcknowledgementIsOfOnePart(t *testing.T) { // P10
	h := decided(t, plain, false, 0, 1)
	h.tick(api.OK)
	h.deliver(0, api.OK)
	h.copies(1, api.OK)
	h.copies(1, api.OK)
	for range 3 {
		h.deliver(1, api.OK)
		h.producer(0, waiting(1, 1, false, []int{0, 1}, []int{1}))
	}
	h.flight(marker(1, 0, 1, false))
}

func TestALateMarker(t *testing.T) { // P10: of a transaction that is over
	h := markerSent(t)
	h.copies(0, api.OK)
	h.copies(0, api.OK)
	h.deliver(0, api.OK)
	h.deliver(2, api.OK)
	h.producer(0, idle(1, 1))
	h.flight(marker(0, 0, 1, true), marker(0, 0, 1, true))
	before := tell(h, plain)
	h.deliver(1, api.OK) // while nothing is open
	h.flight(marker(0, 0, 1, true), ack(0, 0, 1, true))
	h.drop(1, api.OK)
	h.copies(0, api.OK)
	h.stays(before)
	h.add(0, 1, 0, api.OK)
	h.produce(0, 1, 0, "c", api.OK)
	h.deliver(0, api.OK) // while the next one is
	h.part(0, api.Part{End: 3, Stable: 2, Open: []int{0}})
	h.flight(marker(0, 0, 1, true), ack(0, 0, 1, true))
	h.deliver(1, api.OK)
	h.producer(0, ongoing(1, 2, 0))
	h.end(0, 1, false, api.OK)
	h.deliver(0, api.OK) // and while that is ended the other way
	h.part(0, api.Part{End: 3, Stable: 2, Open: []int{0}})
	h.flight(ack(0, 0, 1, true))
	h.deliver(0, api.OK)
	h.producer(0, ending(1, 2, false, 0))
}

func TestALateAcknowledgement(t *testing.T) { // P10: of another transaction, or of one that is over
	h := markerSent(t)
	h.deliver(0, api.OK)
	for range 4 {
		h.copies(0, api.OK)
	}
	h.deliver(0, api.OK)
	h.producer(0, idle(1, 1))
	before := h.Journal()
	h.deliver(0, api.OK)
	h.producer(0, idle(1, 1))
	h.journal(before)
	h.init(0, 2, api.OK)
	h.add(0, 2, 0, api.OK)
	before = h.Journal()
	h.deliver(0, api.OK)
	h.producer(0, ongoing(2, 2, 0))
	h.journal(before)
	h.end(0, 2, true, api.OK)
	before = h.Journal()
	h.deliver(0, api.OK)
	h.producer(0, ending(2, 2, true, 0))
	h.journal(before)
	h.tick(api.OK)
	h.deliver(1, api.OK)
	h.deliver(1, api.OK)
	h.producer(0, idle(2, 2))
	h.flight(ack(0, 0, 1, true))
}

func TestAnAcknowledgementIsOfOneProducer(t *testing.T) { // P10: the numbers of transactions are each one's own
	h := fresh(t, plain)
	for n := range 2 {
		h.init(n, 1, api.OK)
		h.add(n, 1, 0, api.OK)
		h.end(n, 1, true, api.OK)
	}
	h.tick(api.OK)
	h.deliver(1, api.OK)
	h.part(0, api.Part{End: 1, Stable: 1, Open: []int{0}})
	h.deliver(1, api.OK)
	h.producer(0, ending(1, 1, true, 0))
	h.producer(1, idle(1, 1))
}

func TestAPartThatIsOut(t *testing.T) { // P10
	h := markerSent(t)
	h.copies(0, api.OK)
	h.out(0, true, api.OK)
	h.deliver(0, api.OK)
	h.flight(marker(0, 0, 1, true)) // nothing is sent back
	h.part(0, api.Part{Out: true, End: 1, Open: []int{0}})
	h.producer(0, ending(1, 1, true, 0))
	h.out(0, false, api.OK)
	h.deliver(0, api.OK)
	h.part(0, api.Part{End: 2, Stable: 2})
	h.out(0, true, api.OK)
	h.flight(ack(0, 0, 1, true))
	h.fetch(0, 0, 9, api.Record{Text: "a"}) // its log stays
	h.deliver(0, api.OK)                    // an acknowledgement that is under way comes
	h.producer(0, idle(1, 1))
}

func TestAcknowledgementsAtAKeeperThatIsDown(t *testing.T) { // P10, P12
	h := decided(t, plain, true, 0, 1)
	h.tick(api.OK)
	h.crash(api.OK)
	h.flight(marker(0, 0, 1, true), marker(1, 0, 1, true)) // the network does not hang on the keeper
	h.deliver(0, api.OK)
	h.deliver(0, api.OK)
	h.part(0, api.Part{End: 1, Stable: 1})
	written := h.Journal()
	h.copies(0, api.OK)
	h.deliver(0, api.OK)
	h.deliver(0, api.OK)
	h.flight(ack(0, 0, 1, true))
	h.journal(written)
	h.restart(api.OK)
	h.flight(ack(0, 0, 1, true))
	h.producer(0, ending(1, 1, true, 0, 1))
	h.deliver(0, api.OK) // one that was under way over the restart counts
	h.producer(0, waiting(1, 1, true, []int{0, 1}, []int{1}))
}

func TestAPartWhoseLogNeverOpenedIt(t *testing.T) { // P10, P12
	h := begun(t, plain, 0)
	h.breaks(journalSize, api.OK)
	h.add(0, 1, 1, api.ErrDown)
	h.restart(api.OK)
	h.end(0, 1, true, api.OK)
	h.tick(api.OK)
	h.flight(marker(0, 0, 1, true), marker(1, 0, 1, true))
	h.deliver(1, api.OK)
	h.entries(1)
	h.flight(marker(0, 0, 1, true), ack(1, 0, 1, true)) // it acknowledges all the same
	for range 3 {
		h.deliver(0, api.OK)
	}
	h.producer(0, idle(1, 1))
}

// filled is one with so many copies of one marker in flight.
func filled(t *testing.T, n int) hand {
	t.Helper()
	h := markerSent(t)
	for range n - 1 {
		h.copies(0, api.OK)
	}
	if got := h.Flight(); got != n {
		t.Fatalf("%d are in flight, want %d", got, n)
	}
	return h
}

func TestAFullFlight(t *testing.T) { // P10
	h := filled(t, api.MaxFlight-1)
	h.copies(98, api.OK)
	before := tell(h, plain)
	for _, k := range []int{0, 50, 99} {
		h.copies(k, api.OK) // it is lost
		h.stays(before)
	}
	noMessage(h)
	h.deliver(0, api.OK) // this one makes room for its own acknowledgement
	if m, e := h.Message(99); m != ack(0, 0, 1, true) || e != api.OK || h.Flight() != 100 {
		t.Errorf("the last of %d in flight is %+v, %d", h.Flight(), m, e)
	}
	h.deliver(99, api.OK)
	h.producer(0, idle(1, 1))
	h.copies(0, api.OK)
	h.drop(99, api.OK)
	h.deliver(98, api.OK)
	h.drop(0, api.OK)
	if n := h.Flight(); n != 98 {
		t.Errorf("%d are in flight", n)
	}
}

func TestMarkersAreLostInAFullFlight(t *testing.T) { // P9, P10: sent they were, and the next ones come as late
	for room := range 5 {
		h := fresh(t, api.Config{Producers: 2, Parts: 4, Timeout: 5, Backoff: 4})
		h.init(0, 1, api.OK)
		h.add(0, 1, 0, api.OK)
		h.end(0, 1, true, api.OK)
		h.tick(api.OK)
		h.ticks(1)
		for h.Flight() < 100-room {
			h.copies(0, api.OK)
		}
		h.init(1, 1, api.OK)
		for part := range 4 {
			h.add(1, 1, part, api.OK)
		}
		h.end(1, 1, true, api.OK)
		h.tick(api.OK)
		for part := range 4 {
			m, e := h.Message(100 - room + part)
			if part < room && (m != marker(part, 1, 1, true) || e != api.OK) || part >= room && e != api.ErrNone {
				t.Errorf("room for %d: the marker for part %d is %+v, %d", room, part, m, e)
			}
		}
		h.dropAll()
		h.tick(api.OK) // the first one's third and the second one's second
		h.flight(marker(0, 0, 1, true), marker(0, 1, 1, true), marker(1, 1, 1, true), marker(2, 1, 1, true), marker(3, 1, 1, true))
		h.dropAll()
		h.tick(api.OK)
		h.flight()
		h.tick(api.OK)
		h.flight(marker(0, 1, 1, true), marker(1, 1, 1, true), marker(2, 1, 1, true), marker(3, 1, 1, true))
	}
}

func TestMessagesAreKeptApart(t *testing.T) { // P2
	a, m := crowd(t)
	b, _ := crowd(t)
	a.copies(0, api.OK)
	a.drop(1, api.OK)
	a.deliver(0, api.OK)
	b.flight(m[:]...)
	kept, _ := b.Message(0)
	b.drop(0, api.OK)
	if kept != m[0] {
		t.Errorf("a message that came out is %+v now", kept)
	}
}
