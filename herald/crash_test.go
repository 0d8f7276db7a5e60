package herald_test

import (
	"math"
	"testing"

	"herald/api"
)

// journalSize is how many bytes a record of the journal has.
const journalSize = 16

// keeps is numbers of bytes that a break may be told to keep.
func keeps() []int {
	n := []int{math.MinInt, math.MinInt + 1, math.MaxInt - 1, math.MaxInt, 256, 1 << 32}
	for keep := -2; keep <= journalSize+2; keep++ {
		n = append(n, keep)
	}
	return n
}

// torn is what a break leaves of a record, and whether that is all of it.
func torn(record string, keep int) (string, bool) {
	switch {
	case keep <= 0:
		return "", false
	case keep >= journalSize:
		return record, true
	}
	return record[:keep], false
}

func TestJournalOfTheFirstExample(t *testing.T) { // P11, example 5: which record comes by which call
	h := fresh(t, plain)
	h.journal()
	h.init(0, 1, api.OK)
	h.journal("\x01\x00\x00\x00\x00\x00\x00\x00\x00\x00\x00\x01\x00\x19\x00\x03")
	h.add(0, 1, 0, api.OK)
	h.produce(0, 1, 0, "a", api.OK)
	h.end(0, 1, true, api.OK)
	h.journal("\x01\x00\x00\x00\x00\x00\x00\x00\x00\x00\x00\x01\x00\x19\x00\x03" +
		"\x02\x00\x00\x00\x00\x00\x00\x00\x00\x00\x00\x01\x00\x25\x00\x04" +
		"\x03\x00\x01\x00\x00\x00\x00\x00\x00\x00\x00\x01\x00\x3b\x00\x06")
}

func TestJournalHasEachDeedOnce(t *testing.T) { // P11
	h := fresh(t, api.Config{Producers: 6, Parts: 4, Timeout: 1, Backoff: 1})
	h.init(5, 1, api.OK)
	h.init(5, 2, api.OK)
	h.add(5, 2, 3, api.OK)
	h.add(5, 2, 1, api.OK)
	h.init(4, 1, api.OK)
	h.add(4, 1, 3, api.OK)
	want := []string{record(1, 5, 0, 1), record(1, 5, 0, 2), record(2, 5, 3, 1), record(2, 5, 1, 1), record(1, 4, 0, 1), record(2, 4, 3, 1)}
	h.journal(want...)
	// These write nothing.
	h.add(5, 2, 3, api.OK)
	h.produce(5, 2, 3, "a", api.OK)
	h.produce(5, 2, 0, "a", api.ErrNot)
	h.out(0, true, api.OK)
	h.add(5, 2, 0, api.ErrOut)
	h.add(5, 1, 2, api.ErrFenced)
	h.end(3, 1, true, api.ErrFenced)
	h.init(6, 0, api.ErrProducer)
	h.restart(api.ErrUp)
	h.breaks(0, api.OK)
	h.crash(api.OK)
	h.crash(api.ErrDown)
	h.restart(api.OK)
	h.journal(want...)
	// An abort by End, an abort by Init, a commit.
	h.end(5, 2, false, api.OK)
	h.end(5, 2, true, api.ErrBusy)
	h.init(4, 0, api.ErrBusy)
	h.init(4, 0, api.ErrBusy)
	h.init(3, 1, api.OK)
	h.add(3, 1, 1, api.OK)
	h.end(3, 1, true, api.OK)
	h.journal(append(want, record(3, 5, 0, 1), record(3, 4, 0, 1), record(1, 3, 0, 1), record(2, 3, 1, 1), record(3, 3, 1, 1))...)
}

func TestJournalNumbersOfSeveralBytes(t *testing.T) { // P11, P12
	h := fresh(t, plain)
	var want []string
	for epoch := 1; epoch <= 700; epoch++ {
		h.init(1, epoch, api.OK)
		want = append(want, record(1, 1, 0, epoch))
	}
	h.journal(want...)
	h.crash(api.OK)
	h.restart(api.OK)
	h.producer(1, idle(700, 0))
	h.producer(0, idle(0, 0))
	h.add(1, 700, 1, api.OK)
	h.journal(append(want, record(2, 1, 1, 1))...)
}

func TestBreakInAnEpoch(t *testing.T) { // P12
	for _, keep := range keeps() {
		h := fresh(t, plain)
		h.init(0, 1, api.OK)
		h.breaks(keep, api.OK)
		h.producer(0, idle(1, 0)) // nothing is written by that
		h.init(0, 0, api.ErrDown)
		written, whole := torn(record(1, 0, 0, 2), keep)
		h.journal(record(1, 0, 0, 1), written)
		isDown(h)
		h.restart(api.OK)
		if whole {
			h.journal(record(1, 0, 0, 1), record(1, 0, 0, 2))
			h.producer(0, idle(2, 0))
			h.init(0, 3, api.OK)
		} else {
			h.journal(record(1, 0, 0, 1))
			h.producer(0, idle(1, 0))
			h.init(0, 2, api.OK)
		}
	}
}

func TestBreakInTheFirstPart(t *testing.T) { // P12
	for _, keep := range keeps() {
		h := fresh(t, plain)
		h.init(0, 1, api.OK)
		h.breaks(keep, api.OK)
		h.add(0, 1, 1, api.ErrDown)
		written, whole := torn(record(2, 0, 1, 1), keep)
		h.journal(record(1, 0, 0, 1), written)
		h.part(1, api.Part{})
		isDown(h)
		h.restart(api.OK)
		h.part(1, api.Part{}) // no log is opened by that
		if whole {
			h.producer(0, ongoing(1, 1, 1))
			h.produce(0, 1, 1, "x", api.ErrNot)
		} else {
			h.producer(0, idle(1, 0))
			h.produce(0, 1, 1, "x", api.ErrNone)
		}
		h.add(0, 1, 1, api.OK)
		h.producer(0, ongoing(1, 1, 1))
		h.part(1, api.Part{Open: []int{0}})
		h.produce(0, 1, 1, "x", api.OK)
		h.entries(1, data(0, 1, "x"))
		h.journal(record(1, 0, 0, 1), record(2, 0, 1, 1))
	}
}

func TestBreakInAFurtherPart(t *testing.T) { // P12
	for _, keep := range keeps() {
		h := fresh(t, plain)
		h.init(0, 1, api.OK)
		h.add(0, 1, 1, api.OK)
		h.produce(0, 1, 1, "a", api.OK)
		h.breaks(keep, api.OK)
		h.add(0, 1, 0, api.ErrDown)
		_, whole := torn(record(2, 0, 0, 1), keep)
		h.restart(api.OK)
		h.part(0, api.Part{})
		h.part(1, api.Part{End: 1, Open: []int{0}})
		parts := []int{1}
		if whole {
			parts = []int{0, 1}
		}
		h.producer(0, ongoing(1, 1, parts...))
		h.produce(0, 1, 0, "x", api.ErrNot)
		h.produce(0, 1, 1, "b", api.OK)
		h.end(0, 1, true, api.OK) // a part whose log never opened it has to acknowledge too
		h.producer(0, ending(1, 1, true, parts...))
	}
}

func TestBreakInADecision(t *testing.T) { // P12
	for _, keep := range keeps() {
		for _, commit := range []bool{true, false} {
			h := fresh(t, plain)
			h.init(0, 1, api.OK)
			h.add(0, 1, 0, api.OK)
			h.breaks(keep, api.OK)
			h.end(0, 1, commit, api.ErrDown)
			detail := 0
			if commit {
				detail = 1
			}
			written, whole := torn(record(3, 0, detail, 1), keep)
			h.journal(record(1, 0, 0, 1), record(2, 0, 0, 1), written)
			isDown(h)
			h.restart(api.OK)
			if whole {
				h.producer(0, ending(1, 1, commit, 0))
				h.end(0, 1, !commit, api.ErrBusy)
			} else {
				h.producer(0, ongoing(1, 1, 0))
				h.end(0, 1, !commit, api.OK) // the other one may be decided still
				h.producer(0, ending(1, 1, !commit, 0))
			}
		}
	}
}

func TestBreakInAnAbortByInit(t *testing.T) { // P6, P12
	for _, keep := range keeps() {
		h := fresh(t, plain)
		h.init(0, 1, api.OK)
		h.add(0, 1, 0, api.OK)
		h.breaks(keep, api.OK)
		h.init(0, 0, api.ErrBusy)
		written, whole := torn(record(3, 0, 0, 1), keep)
		h.journal(record(1, 0, 0, 1), record(2, 0, 0, 1), written)
		isDown(h)
		h.restart(api.OK)
		if whole {
			h.producer(0, ending(1, 1, false, 0))
		} else {
			h.producer(0, ongoing(1, 1, 0))
		}
	}
}

func TestBreakWaitsForARecord(t *testing.T) { // P12: calls that write nothing pass it by
	h := fresh(t, plain)
	h.init(0, 1, api.OK)
	h.init(1, 1, api.OK)
	h.add(0, 1, 0, api.OK)
	h.add(1, 1, 0, api.OK)
	h.end(1, 1, true, api.OK)
	h.breaks(3, api.OK)
	before := tell(h, plain)
	h.add(0, 1, 0, api.OK)
	h.add(0, 2, 1, api.ErrFenced)
	h.add(1, 1, 1, api.ErrBusy)
	h.end(1, 1, true, api.ErrBusy)
	h.init(1, 0, api.ErrBusy)
	h.init(2, 0, api.ErrProducer)
	h.restart(api.ErrUp)
	h.stays(before)
	h.produce(0, 1, 0, "a", api.OK)
	h.out(1, true, api.OK)
	h.add(0, 1, 1, api.ErrOut)
	h.out(1, false, api.OK)
	written := h.Journal()
	h.add(0, 1, 1, api.ErrDown)
	h.journal(written, "\x02\x00\x01")
	h.restart(api.OK)
	h.journal(written)
	h.add(0, 1, 1, api.OK) // it breaks but once
	h.end(0, 1, true, api.OK)
	h.journal(written, record(2, 0, 1, 1), record(3, 0, 1, 1))
}

func TestAnotherBreakTakesItsPlace(t *testing.T) { // P12
	for _, first := range []int{-1, 0, 7, 99} {
		h := fresh(t, plain)
		h.breaks(first, api.OK)
		h.breaks(2, api.OK)
		h.init(1, 0, api.ErrDown)
		h.journal("\x01\x01")
		h.restart(api.OK)
		h.init(1, 1, api.OK)
	}
}

func TestACrashEndsABreak(t *testing.T) { // P12
	for _, keep := range keeps() {
		h := fresh(t, plain)
		h.breaks(keep, api.OK)
		h.crash(api.OK)
		h.journal()
		h.restart(api.OK)
		h.init(0, 1, api.OK)
		h.journal(record(1, 0, 0, 1))
	}
}

func TestBreakAfterBreak(t *testing.T) { // P12: the tail is cut off each time
	h := fresh(t, plain)
	for keep := range 2 * journalSize {
		h.breaks(keep, api.OK)
		h.init(0, 0, api.ErrDown)
		h.restart(api.OK)
	}
	h.producer(0, idle(journalSize, 0))
	h.init(0, journalSize+1, api.OK)
	var want []string
	for epoch := range journalSize + 1 {
		want = append(want, record(1, 0, 0, epoch+1))
	}
	h.journal(want...)
}

// isDown makes all calls that a keeper that is down refuses.
func isDown(h hand) {
	h.t.Helper()
	before := tell(h, h.c)
	for n := range h.c.Producers {
		h.init(n, 0, api.ErrDown)
		h.add(n, 1, 0, api.ErrDown)
		h.produce(n, 1, 0, "x", api.ErrDown)
		h.end(n, 1, true, api.ErrDown)
		p, e := h.Producer(n)
		if e != api.ErrDown || p.Epoch != 0 || p.Txn != 0 || p.Status != 0 || len(p.Parts) != 0 || len(p.Pending) != 0 {
			h.t.Fatalf("Producer(%d) = %+v, %d of a keeper that is down", n, p, e)
		}
	}
	for _, keep := range keeps() {
		h.breaks(keep, api.ErrDown)
	}
	h.crash(api.ErrDown)
	h.tick(api.ErrDown)
	h.stays(before)
}

func TestCrash(t *testing.T) { // P12, P14
	h := fresh(t, plain)
	h.init(0, 1, api.OK)
	h.add(0, 1, 0, api.OK)
	h.produce(0, 1, 0, "a", api.OK)
	h.init(1, 1, api.OK)
	h.out(1, true, api.OK)
	written := h.Journal()
	h.crash(api.OK)
	isDown(h)
	h.journal(written)
	h.part(0, api.Part{End: 1, Open: []int{0}})
	h.part(1, api.Part{Out: true})
	h.entries(0, data(0, 1, "a"))
	h.restart(api.OK)
	h.restart(api.ErrUp)
	h.journal(written)
	h.producer(0, ongoing(1, 1, 0))
	h.producer(1, idle(1, 0))
	h.part(0, api.Part{End: 1, Open: []int{0}})
	h.part(1, api.Part{Out: true})
	h.produce(0, 1, 0, "b", api.OK) // the log has it open still
	h.entries(0, data(0, 1, "a"), data(0, 1, "b"))
}

func TestCrashOfANewHerald(t *testing.T) { // P12
	h := fresh(t, plain)
	before := tell(h, plain)
	h.crash(api.OK)
	isDown(h)
	h.restart(api.OK)
	h.stays(before)
}

func TestRestartKeepsDecisions(t *testing.T) { // P12
	for _, commit := range []bool{true, false} {
		h := fresh(t, plain)
		h.init(0, 1, api.OK)
		h.add(0, 1, 0, api.OK)
		h.produce(0, 1, 0, "a", api.OK)
		h.end(0, 1, commit, api.OK)
		for range 3 {
			h.crash(api.OK)
			h.restart(api.OK)
			h.producer(0, ending(1, 1, commit, 0))
			h.end(0, 1, !commit, api.ErrBusy)
			h.init(0, 0, api.ErrBusy)
		}
		h.part(0, api.Part{End: 1, Open: []int{0}})
		h.fetch(0, 0, 9)
	}
}

func TestRestartKeepsAllProducersApart(t *testing.T) { // P12
	c := api.Config{Producers: 6, Parts: 4, Timeout: 5, Backoff: 4}
	h := fresh(t, c)
	for n := range 5 {
		for epoch := range n + 1 {
			h.init(n, epoch+1, api.OK)
		}
		for part := range 4 {
			if n > 0 && part != n-1 {
				h.add(n, n+1, part, api.OK)
			}
		}
	}
	h.end(1, 2, true, api.OK)
	h.end(2, 3, false, api.OK)
	h.init(3, 0, api.ErrBusy)
	before := tell(h, c)
	for range 2 {
		h.crash(api.OK)
		h.restart(api.OK)
		h.stays(before)
		h.producer(0, idle(1, 0))
		h.producer(1, ending(2, 1, true, 1, 2, 3))
		h.producer(2, ending(3, 1, false, 0, 2, 3))
		h.producer(3, ending(4, 1, false, 0, 1, 3))
		h.producer(4, ongoing(5, 1, 0, 1, 2))
		h.producer(5, idle(0, 0))
	}
}

func TestBreakInATick(t *testing.T) { // P9, P12
	for _, keep := range keeps() {
		h := begun(t, plain, 0, 1)
		h.produce(0, 1, 0, "a", api.OK)
		h.ticks(4)
		h.breaks(keep, api.OK)
		h.tick(api.ErrDown)
		written, whole := torn(record(3, 0, 0, 1), keep)
		h.journal(record(1, 0, 0, 1), record(2, 0, 0, 1), record(2, 0, 1, 1), written)
		isDown(h)
		h.restart(api.OK)
		if whole {
			h.producer(0, ending(1, 1, false, 0, 1))
			h.tick(api.OK)
			h.flight(marker(0, 0, 1, false), marker(1, 0, 1, false))
			continue
		}
		h.producer(0, ongoing(1, 1, 0, 1))
		h.ticks(4) // a restart is as if it had spoken
		h.producer(0, ongoing(1, 1, 0, 1))
		h.end(0, 1, true, api.OK) // and it may be committed still
		h.tick(api.OK)
		h.flight(marker(0, 0, 1, true), marker(1, 0, 1, true))
	}
}

// mixed is a herald at whose next Tick a marker of producer 0 is sent, 1 and 2 have been silent for too long, and a marker of 3 is sent.
func mixed(t *testing.T) hand {
	t.Helper()
	h := fresh(t, api.Config{Producers: 4, Parts: 2, Timeout: 2, Backoff: 4})
	for n := range 4 {
		h.init(n, 1, api.OK)
		h.add(n, 1, 0, api.OK)
	}
	h.tick(api.OK)
	h.end(0, 1, true, api.OK)
	h.end(3, 1, true, api.OK)
	return h
}

func TestABreakEndsATick(t *testing.T) { // P12: what stands ahead of it is done, what stands behind it is not
	for _, keep := range keeps() {
		h := mixed(t)
		before := h.Journal()
		h.breaks(keep, api.OK)
		h.tick(api.ErrDown)
		written, whole := torn(record(3, 1, 0, 1), keep)
		h.journal(before, written)
		h.flight(marker(0, 0, 1, true))
		h.restart(api.OK)
		if whole {
			h.producer(1, ending(1, 1, false, 0))
		} else {
			h.producer(1, ongoing(1, 1, 0))
		}
		h.producer(2, ongoing(1, 1, 0))
		h.producer(3, ending(1, 1, true, 0))
	}
}

func TestABreakIsOverBehindIt(t *testing.T) { // P12: the same Tick without one
	h := mixed(t)
	before := h.Journal()
	h.tick(api.OK)
	h.journal(before, record(3, 1, 0, 1), record(3, 2, 0, 1))
	h.flight(marker(0, 0, 1, true), marker(0, 3, 1, true))
}

func TestBreakInADeliver(t *testing.T) { // P10, P12
	for _, keep := range keeps() {
		h := decided(t, plain, true, 0, 1)
		h.tick(api.OK)
		h.breaks(keep, api.OK)
		before := h.Journal()
		h.deliver(0, api.OK) // a part writes nothing into the journal
		h.deliver(0, api.OK)
		h.deliver(1, api.OK) // and one that is pending still lets nothing be written
		h.producer(0, waiting(1, 1, true, []int{0, 1}, []int{0}))
		h.journal(before)
		h.copies(0, api.OK)
		h.deliver(0, api.OK)
		written, whole := torn(record(4, 0, 0, 1), keep)
		h.journal(before, written)
		h.flight(ack(0, 0, 1, true))
		isDown(h)
		h.restart(api.OK)
		h.flight(ack(0, 0, 1, true))
		if whole {
			h.producer(0, idle(1, 1))
			h.add(0, 1, 0, api.OK)
			h.producer(0, ongoing(1, 2, 0))
			continue
		}
		h.producer(0, ending(1, 1, true, 0, 1)) // all of them are pending again
		h.deliver(0, api.OK)
		h.tick(api.OK)
		h.flight(marker(1, 0, 1, true))
		h.round(1)
		h.producer(0, idle(1, 1))
		h.journal(before, record(4, 0, 0, 1))
	}
}

func TestBreakInTheAcknowledgementsOfARound(t *testing.T) { // P12, P13
	for _, keep := range keeps() {
		c := api.Config{Producers: 4, Parts: 2, Timeout: 1, Backoff: 1}
		h := turned(t, c, []int{1, 0, 1}, []int{0, 1, 2})
		before := h.Journal()
		h.breaks(keep, api.OK)
		h.round(3)
		written, whole := torn(record(4, 1, 0, 1), keep)
		h.journal(before, written)
		h.flight() // those behind it came to nobody, and no time went by
		h.entries(0, closed(1, 1, true))
		h.entries(1, closed(0, 1, true), closed(2, 1, true))
		isDown(h)
		h.restart(api.OK)
		h.producer(0, ending(1, 1, true, 1))
		h.producer(2, ending(1, 1, true, 1))
		if whole {
			h.producer(1, idle(1, 1))
			h.round(0)
			h.flight(marker(1, 0, 1, true), marker(1, 2, 1, true))
		} else {
			h.producer(1, ending(1, 1, true, 0))
			h.round(0)
			h.flight(marker(1, 0, 1, true), marker(0, 1, 1, true), marker(1, 2, 1, true))
		}
	}
}

func TestBreakInALaterAcknowledgementOfARound(t *testing.T) { // P12, P13: what came ahead of it counts
	h := turned(t, api.Config{Producers: 4, Parts: 2, Timeout: 1, Backoff: 1}, []int{1, 0, 1}, []int{0, 1, 2})
	h.deliver(1, api.OK)
	h.deliver(2, api.OK)
	h.producer(1, idle(1, 1))
	h.breaks(5, api.OK)
	before := h.Journal()
	h.round(2)
	h.journal(before, done(0)[:5])
	h.restart(api.OK)
	h.producer(0, ending(1, 1, true, 1))
	h.producer(1, idle(1, 1))
	h.producer(2, ending(1, 1, true, 1))
}

func TestBreakInTheTickOfARound(t *testing.T) { // P12, P13
	for _, keep := range keeps() {
		h := mixed(t)
		before := h.Journal()
		h.breaks(keep, api.OK)
		h.round(0)
		written, whole := torn(record(3, 1, 0, 1), keep)
		h.journal(before, written)
		h.flight(marker(0, 0, 1, true))
		isDown(h)
		h.restart(api.OK)
		if whole {
			h.producer(1, ending(1, 1, false, 0))
		} else {
			h.producer(1, ongoing(1, 1, 0))
		}
		h.producer(2, ongoing(1, 1, 0))
	}
}

func TestRestartMakesMarkersDue(t *testing.T) { // P12: at the next Tick, and by and by as from the beginning
	h := decided(t, plain, true, 0, 1)
	h.tick(api.OK)
	h.deliver(0, api.OK)
	h.deliver(1, api.OK)
	h.producer(0, waiting(1, 1, true, []int{0, 1}, []int{1}))
	sentAt(h, 9) // the next one is due in 3 ticks
	h.crash(api.OK)
	h.restart(api.OK)
	h.producer(0, ending(1, 1, true, 0, 1)) // of acknowledgements the journal has nothing
	h.tick(api.OK)
	h.flight(marker(0, 0, 1, true), marker(1, 0, 1, true))
	h.dropAll()
	if got := sentAt(h, 11); len(got) != 4 || got[0] != 1 || got[1] != 3 || got[2] != 7 || got[3] != 11 {
		t.Errorf("the next ones are sent at %v", got)
	}
}

func TestTimeStandsStillWhileTheKeeperIsDown(t *testing.T) { // P12
	h := fresh(t, plain)
	for n := range 2 {
		h.init(n, 1, api.OK)
		h.add(n, 1, n, api.OK)
	}
	h.end(1, 1, true, api.OK)
	h.ticks(3)
	h.crash(api.OK)
	h.dropAll()
	for range 30 {
		h.tick(api.ErrDown)
		h.round(0)
	}
	h.flight()
	h.restart(api.OK)
	h.ticks(4)
	h.producer(0, ongoing(1, 1, 0))
	h.flight(marker(1, 1, 1, true), marker(1, 1, 1, true), marker(1, 1, 1, true))
	h.tick(api.OK)
	h.producer(0, ending(1, 1, false, 0))
}

func TestACrashDoesNotTouchTheNetwork(t *testing.T) { // P12
	h, m := crowd(t)
	h.crash(api.OK)
	h.flight(m[:]...)
	h.restart(api.OK)
	h.flight(m[:]...)
}
