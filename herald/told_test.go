package herald_test

import (
	"math"
	"slices"
	"testing"

	"herald/api"
)

// busy is a herald with a producer of each status, something in each of its logs, and nothing in flight yet.
func busy(t *testing.T) hand {
	t.Helper()
	h := fresh(t, api.Config{Producers: 5, Parts: 3, Timeout: 5, Backoff: 4})
	for n := range 4 {
		h.init(n, 1, api.OK)
	}
	for n := range 3 {
		for part := range 3 {
			h.add(n, 1, part, api.OK)
			h.produce(n, 1, part, "x", api.OK)
		}
	}
	h.end(1, 1, true, api.OK)
	h.end(2, 1, false, api.OK)
	return h
}

func TestProducerTellsWhatTheKeeperKnows(t *testing.T) { // P14
	h := busy(t)
	h.producer(0, ongoing(1, 1, 0, 1, 2))
	h.producer(1, ending(1, 1, true, 0, 1, 2))
	h.producer(2, ending(1, 1, false, 0, 1, 2))
	h.producer(3, idle(1, 0))
	h.producer(4, idle(0, 0))
}

func TestWrongNumbersTellNothing(t *testing.T) { // P1, P14
	h := busy(t)
	for range 2 { // of a keeper that is up, and of one that is down
		before := tell(h, h.c)
		for _, n := range append([]int{5}, none...) {
			p, e := h.Producer(n)
			if e != api.ErrProducer || p.Epoch != 0 || p.Txn != 0 || p.Status != 0 || len(p.Parts) != 0 || len(p.Pending) != 0 {
				t.Errorf("Producer(%d) = %+v, %d", n, p, e)
			}
		}
		for _, n := range append([]int{3, 4}, none...) {
			p, e := h.Part(n)
			if e != api.ErrPart || p.Out || p.End != 0 || p.Stable != 0 || len(p.Open) != 0 {
				t.Errorf("Part(%d) = %+v, %d", n, p, e)
			}
			if l, e := h.Entries(n); e != api.ErrPart || len(l) != 0 {
				t.Errorf("Entries(%d) = %v, %d", n, l, e)
			}
			if l, e := h.Fetch(n, n, n); e != api.ErrPart || len(l) != 0 {
				t.Errorf("Fetch(%d) = %v, %d", n, l, e)
			}
		}
		h.stays(before)
		h.Crash()
	}
}

func TestProducerTellsWhoHasNotAcknowledged(t *testing.T) { // P14
	h := busy(t)
	h.tick(api.OK)
	h.flight(marker(0, 1, 1, true), marker(1, 1, 1, true), marker(2, 1, 1, true), marker(0, 2, 1, false), marker(1, 2, 1, false), marker(2, 2, 1, false))
	h.deliver(1, api.OK)
	h.deliver(4, api.OK)
	h.deliver(4, api.OK)
	h.deliver(4, api.OK)
	h.producer(1, waiting(1, 1, true, []int{0, 1, 2}, []int{0, 2}))
	h.producer(2, waiting(1, 1, false, []int{0, 1, 2}, []int{0, 1}))
	h.producer(0, ongoing(1, 1, 0, 1, 2))
}

func TestPartsTellWhatTheirLogsTell(t *testing.T) { // P14
	h := busy(t)
	h.out(1, true, api.OK)
	for range 2 {
		for part := range 3 {
			h.part(part, api.Part{Out: part == 1, End: 3, Open: []int{0, 1, 2}})
			h.entries(part, data(0, 1, "x"), data(1, 1, "x"), data(2, 1, "x"))
			h.fetch(part, math.MinInt, math.MaxInt)
			h.fetch(part, math.MaxInt, math.MinInt)
		}
		h.Crash()
	}
}

func TestTellingChangesNothing(t *testing.T) { // P14
	h := busy(t)
	h.breaks(5, api.OK)
	before := tell(h, h.c)
	for range 3 {
		h.stays(before)
	}
}

// scribble writes into all of a list, its spare room too.
func scribble[E any](list []E, with E) {
	for i := range list[:cap(list)] {
		list[:cap(list)][i] = with
	}
}

func TestListsOfAProducerAreNewMemory(t *testing.T) { // P2
	h := busy(t)
	before := tell(h, h.c)
	for n := range 4 {
		want, _ := h.Producer(n)
		got, _ := h.Producer(n)
		parts, pending := slices.Clone(got.Parts), slices.Clone(got.Pending)
		scribble(got.Parts, -7)
		if !slices.Equal(got.Pending, pending) {
			t.Errorf("Parts and Pending of producer %d share room", n)
		}
		got, _ = h.Producer(n)
		scribble(got.Pending, -7)
		if !slices.Equal(got.Parts, parts) {
			t.Errorf("Pending and Parts of producer %d share room", n)
		}
		if !slices.Equal(want.Parts, parts) || !slices.Equal(want.Pending, pending) {
			t.Errorf("two answers of Producer(%d) share room", n)
		}
		h.stays(before)
	}
}

func TestListsOfAPartAreNewMemory(t *testing.T) { // P2
	h := busy(t)
	for range 70 { // past several growths of what the log keeps
		before := tell(h, h.c)
		kept, _ := h.Entries(0)
		want := slices.Clone(kept)
		entries, _ := h.Entries(0)
		scribble(entries, data(-7, -7, "spoilt"))
		p, _ := h.Part(0)
		scribble(p.Open, -7)
		fetched, _ := h.Fetch(0, 0, 99)
		scribble(fetched, api.Record{Offset: -7, Producer: -7, Text: "spoilt"})
		h.stays(before)
		h.produce(0, 1, 0, "next", api.OK)
		if !slices.Equal(kept, want) {
			t.Fatalf("a list that came out has changed: %v, want %v", kept, want)
		}
		h.entries(0, append(want, data(0, 1, "next"))...)
	}
}

func TestAJournalThatCameOutStays(t *testing.T) { // P2
	h := fresh(t, plain)
	h.init(0, 1, api.OK)
	h.breaks(9, api.OK)
	h.init(0, 0, api.ErrDown)
	first := h.Journal()
	h.restart(api.OK)
	second := h.Journal()
	h.init(1, 1, api.OK)
	if want := record(1, 0, 0, 1); first != want+record(1, 0, 0, 2)[:9] || second != want {
		t.Errorf("the journals that came out are %q and %q now", first, second)
	}
	h.journal(record(1, 0, 0, 1), record(1, 1, 0, 1))
}

func TestHeraldsKnowNothingOfOneAnother(t *testing.T) { // P2
	a, b := fresh(t, plain), fresh(t, plain)
	empty := tell(b, plain)
	a.init(0, 1, api.OK)
	a.add(0, 1, 0, api.OK)
	a.produce(0, 1, 0, "a", api.OK)
	a.out(1, true, api.OK)
	a.breaks(4, api.OK)
	b.stays(empty)
	b.init(0, 1, api.OK)
	b.init(0, 2, api.OK)
	b.add(0, 2, 1, api.OK)
	b.produce(0, 2, 1, "b", api.OK)
	kept := tell(a, plain)
	b.crash(api.OK)
	a.stays(kept)
	a.end(0, 1, true, api.ErrDown)
	b.restart(api.OK)
	isDown(a)
	b.producer(0, ongoing(2, 1, 1))
	b.entries(0)
	b.entries(1, data(0, 1, "b"))
	b.ticks(4) // nor of one another's time
	a.restart(api.OK)
	a.tick(api.OK)
	a.producer(0, ongoing(1, 1, 0))
	b.tick(api.OK)
	b.producer(0, ending(2, 1, false, 1))
	b.round(0)
	b.flight(marker(1, 0, 1, false))
	a.flight()
	a.round(0)
	b.flight(marker(1, 0, 1, false))
	b.round(1)
	b.producer(0, idle(2, 1))
	a.producer(0, ongoing(1, 1, 0))
}

func TestAnyNumbersAndTexts(t *testing.T) { // P1
	numbers := []int{math.MinInt, -1, 0, 1, 2, 3, 4, 5, 6, 7, 100, 1 << 31, 1 << 32, math.MaxInt}
	texts := []string{"", "x", "\x00\xff", long}
	for _, down := range []bool{false, true} {
		h := busy(t)
		if down {
			h.crash(api.OK)
		}
		for _, a := range numbers {
			for _, b := range numbers {
				h.Fetch(a, b, b)
				h.Fetch(0, a, b)
				h.End(a, b, b > a)
				for _, c := range numbers {
					h.Add(a, b, c)
					for _, text := range texts {
						h.Produce(a, b, c, text)
					}
				}
			}
			h.Init(a)
			h.Break(a)
			h.Tick()
			h.Message(a)
			h.Copy(a)
			h.Deliver(a)
			h.Drop(a)
			h.Round()
			h.Out(a, a > 2)
			h.Producer(a)
			h.Part(a)
			h.Entries(a)
		}
	}
}
