package herald_test

import (
	"testing"

	"herald/api"
)

// markerSent is the document's first example up to its Tick: one marker is in flight.
func markerSent(t *testing.T) hand {
	t.Helper()
	h := fresh(t, plain)
	h.init(0, 1, api.OK)
	h.add(0, 1, 0, api.OK)
	h.producer(0, ongoing(1, 1, 0))
	h.produce(0, 1, 0, "a", api.OK)
	h.produce(0, 1, 1, "b", api.ErrNot)
	h.fetch(0, 0, 9)
	h.part(0, api.Part{End: 1, Stable: 0, Open: []int{0}})
	h.end(0, 1, true, api.OK)
	h.producer(0, ending(1, 1, true, 0))
	h.flight()
	h.tick(api.OK)
	h.flight(marker(0, 0, 1, true))
	return h
}

// firstExample is the first example to its end.
func firstExample(t *testing.T) hand {
	t.Helper()
	h := markerSent(t)
	h.deliver(0, api.OK)
	h.entries(0, data(0, 1, "a"), closed(0, 1, true))
	h.flight(ack(0, 0, 1, true))
	h.producer(0, ending(1, 1, true, 0))
	h.deliver(0, api.OK)
	h.flight()
	h.producer(0, idle(1, 1))
	h.fetch(0, 0, 9, api.Record{Offset: 0, Producer: 0, Text: "a"})
	return h
}

func TestExample1(t *testing.T) { // P7 to P10
	h := firstExample(t)
	h.part(0, api.Part{End: 2, Stable: 2})
	h.part(1, api.Part{})
}

func TestExample2(t *testing.T) { // P9
	h := markerSent(t)
	for _, later := range []int{1, 2, 4, 4, 4, 4} {
		h.dropAll()
		for range later - 1 {
			h.tick(api.OK)
			h.flight()
		}
		h.tick(api.OK)
		h.flight(marker(0, 0, 1, true))
	}
	h.deliver(0, api.OK)
	h.deliver(0, api.OK)
	h.producer(0, idle(1, 1))
	h.ticks(20)
	h.flight()
}

func TestExample3(t *testing.T) { // P6, P7, P9
	h := firstExample(t)
	h.init(0, 2, api.OK)
	h.add(0, 1, 0, api.ErrFenced)
	h.add(0, 2, 0, api.OK)
	h.produce(0, 2, 0, "c", api.OK)
	h.ticks(4)
	h.producer(0, ongoing(2, 2, 0))
	h.tick(api.OK)
	h.producer(0, ending(2, 2, false, 0))
	h.flight()
	h.tick(api.OK)
	h.flight(marker(0, 0, 2, false))
	h.deliver(0, api.OK)
	h.deliver(0, api.OK)
	h.producer(0, idle(2, 2))
	h.fetch(0, 0, 9, api.Record{Offset: 0, Producer: 0, Text: "a"})
	h.entries(0, data(0, 1, "a"), closed(0, 1, true), data(0, 2, "c"), closed(0, 2, false))
}

func TestExample4(t *testing.T) { // P6
	h := firstExample(t)
	h.add(0, 1, 1, api.OK)
	h.init(0, 0, api.ErrBusy)
	h.producer(0, ending(1, 2, false, 1))
	h.init(0, 0, api.ErrBusy)
	h.tick(api.OK)
	h.flight(marker(1, 0, 2, false))
	h.deliver(0, api.OK)
	h.init(0, 0, api.ErrBusy)
	h.deliver(0, api.OK)
	h.producer(0, idle(1, 2))
	h.init(0, 2, api.OK)
	h.producer(0, idle(2, 2))
}

func TestExample5(t *testing.T) { // P11
	h := firstExample(t)
	h.journal("\x01\x00\x00\x00\x00\x00\x00\x00\x00\x00\x00\x01\x00\x19\x00\x03" +
		"\x02\x00\x00\x00\x00\x00\x00\x00\x00\x00\x00\x01\x00\x25\x00\x04" +
		"\x03\x00\x01\x00\x00\x00\x00\x00\x00\x00\x00\x01\x00\x3b\x00\x06" +
		"\x04\x00\x00\x00\x00\x00\x00\x00\x00\x00\x00\x01\x00\x3d\x00\x06")
	if n := len(h.Journal()); n != 64 {
		t.Errorf("the journal has %d bytes", n)
	}
}

func TestExample6(t *testing.T) { // P10, P12
	h := markerSent(t)
	h.deliver(0, api.OK) // it has arrived
	h.crash(api.OK)
	h.deliver(0, api.OK) // and its acknowledgement comes to nobody
	h.restart(api.OK)
	h.producer(0, ending(1, 1, true, 0))
	h.flight()
	h.tick(api.OK)
	h.flight(marker(0, 0, 1, true))
	h.deliver(0, api.OK)
	h.entries(0, data(0, 1, "a"), closed(0, 1, true))
	h.flight(ack(0, 0, 1, true))
	h.deliver(0, api.OK)
	h.producer(0, idle(1, 1))
}
