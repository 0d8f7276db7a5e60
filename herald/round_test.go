package herald_test

import (
	"fmt"
	"math/rand"
	"runtime"
	"sync"
	"testing"
	"time"

	"herald/api"
)

func TestRoundWithNothingInFlight(t *testing.T) { // P13: time goes by all the same
	h := begun(t, plain, 0, 1)
	for range 4 {
		h.round(0)
	}
	h.producer(0, ongoing(1, 1, 0, 1))
	h.round(0)
	h.producer(0, ending(1, 1, false, 0, 1))
	h.flight()
	h.round(0)
	h.flight(marker(0, 0, 1, false), marker(1, 0, 1, false)) // what is sent at its Tick is in flight then
	h.round(2)
	h.producer(0, idle(1, 1))
	h.flight()
	h.entries(0, closed(0, 1, false))
	h.entries(1, closed(0, 1, false))
	h.round(0)
}

func TestRoundOfTwoProducers(t *testing.T) { // P13
	h, _ := crowd(t)
	h.round(4)
	h.flight()
	for n := range 2 {
		h.producer(n, idle(1, 1))
		h.entries(n, data(0, 1, "x"), data(1, 1, "x"), closed(0, 1, true), closed(1, 1, false))
	}
}

// turned is a herald with producers that each have one part, which end all at once, and whose markers are in flight in this order.
func turned(t *testing.T, c api.Config, partOf []int, order []int) hand {
	t.Helper()
	h := fresh(t, c)
	for n, part := range partOf {
		h.init(n, 1, api.OK)
		h.add(n, 1, part, api.OK)
		h.end(n, 1, true, api.OK)
	}
	h.tick(api.OK)
	var want []api.Message
	for _, n := range order {
		h.copies(n, api.OK)
		want = append(want, marker(partOf[n], n, 1, true))
	}
	for range partOf {
		h.drop(0, api.OK)
	}
	h.flight(want...)
	return h
}

// done is the records by which these producers, in this order, came to be Idle.
func done(producers ...int) string {
	var all string
	for _, n := range producers {
		all += record(4, n, 0, 1)
	}
	return all
}

func TestRoundHasMarkersArriveInTheirOrder(t *testing.T) { // P13: at each part
	c := api.Config{Producers: 6, Parts: 2, Timeout: 5, Backoff: 4}
	h := turned(t, c, []int{0, 1, 0, 1, 0, 1}, []int{5, 4, 0, 1, 3, 2})
	written := h.Journal()
	h.round(6)
	h.entries(0, closed(4, 1, true), closed(0, 1, true), closed(2, 1, true))
	h.entries(1, closed(5, 1, true), closed(1, 1, true), closed(3, 1, true))
	h.journal(written, done(4, 0, 2), done(5, 1, 3)) // what they send comes part by part
}

func TestRoundPutsAcknowledgementsInFlightFirst(t *testing.T) { // P13
	c := api.Config{Producers: 6, Parts: 4, Timeout: 5, Backoff: 4}
	h := turned(t, c, []int{3, 0, 2, 1, 0, 3}, []int{0, 1, 2, 3, 4, 5})
	h.deliver(2, api.OK)
	h.deliver(0, api.OK)
	h.copies(0, api.OK)
	h.drop(0, api.OK)
	h.flight(marker(1, 3, 1, true), marker(0, 4, 1, true), marker(3, 5, 1, true), ack(2, 2, 1, true), ack(3, 0, 1, true), marker(0, 1, 1, true))
	written := h.Journal()
	h.round(6)
	h.journal(written, done(2, 0), done(4, 1, 3, 5))
}

func TestRoundPastPartsThatAreOut(t *testing.T) { // P13
	h, m := crowd(t)
	h.out(1, true, api.OK)
	h.round(4) // its markers are taken out too
	h.part(1, api.Part{Out: true, End: 2, Open: []int{0, 1}})
	h.part(0, api.Part{End: 4, Stable: 4})
	h.producer(0, waiting(1, 1, true, []int{0, 1}, []int{1}))
	h.flight(m[1], m[3])
	h.round(2)
	h.flight()
	h.out(1, false, api.OK)
	h.round(0)
	h.flight(m[1], m[3])
	h.round(2)
	h.producer(0, idle(1, 1))
	h.producer(1, idle(1, 1))
	h.part(1, api.Part{End: 4, Stable: 4})
}

func TestRoundOfAKeeperThatIsDown(t *testing.T) { // P12, P13
	h, _ := crowd(t)
	h.deliver(0, api.OK)
	h.crash(api.OK)
	written := h.Journal()
	h.round(4)
	h.flight()
	h.journal(written)
	for part := range 2 {
		h.part(part, api.Part{End: 4, Stable: 4}) // the parts work all the same
		h.fetch(part, 0, 9, api.Record{Text: "x"})
	}
	before := tell(h, plain)
	for range 9 {
		h.round(0)
		h.stays(before)
	}
	h.restart(api.OK)
	h.producer(0, ending(1, 1, true, 0, 1))
	h.round(0)
	h.round(4)
	h.producer(0, idle(1, 1))
}

func TestRoundWithLateAndDoubledMessages(t *testing.T) { // P13
	h := markerSent(t)
	h.copies(0, api.OK)
	h.deliver(0, api.OK)
	h.copies(0, api.OK)
	h.copies(1, api.OK)
	h.flight(marker(0, 0, 1, true), ack(0, 0, 1, true), marker(0, 0, 1, true), ack(0, 0, 1, true))
	written := h.Journal()
	h.round(4)
	h.flight()
	h.entries(0, data(0, 1, "a"), closed(0, 1, true))
	h.journal(written, done(0))
}

func TestRoundOfAFullFlight(t *testing.T) { // P10, P13
	h := filled(t, api.MaxFlight)
	h.round(100)
	h.flight()
	h.producer(0, idle(1, 1))
	h.entries(0, data(0, 1, "a"), closed(0, 1, true))
}

func TestRoundIsDeliverAndTick(t *testing.T) { // P13: held against its own calls, over drawn heralds
	for seed := range 60 {
		c := drawConfig(rand.New(rand.NewSource(int64(seed))))
		a, b := drawnInto(t, c, seed), drawnInto(t, c, seed)
		want := b.Flight()
		deliverAll(b)
		b.Tick()
		a.round(want)
		a.stays(tell(b, c))
	}
}

// drawnInto is a herald behind calls drawn by this seed.
func drawnInto(t *testing.T, c api.Config, seed int) hand {
	t.Helper()
	h, m := fresh(t, c), newModel(c)
	r := rand.New(rand.NewSource(int64(seed)))
	for range 120 {
		step(h, r, m, chance{init: 6, add: 12, produce: 6, end: 8, out: 1, crash: 1, restart: 8, tick: 8, deliver: 8, drop: 1, copies: 4})
	}
	return h
}

// deliverAll lets all that is in flight arrive as a Round does, one by one.
func deliverAll(h hand) {
	h.t.Helper()
	all := messages(h)
	for part := range h.c.Parts {
		for n := 0; n < len(all); {
			if all[n].Kind != api.MMarker || all[n].Part != part {
				n++
				continue
			}
			h.deliver(n, api.OK)
			all = append(all[:n], all[n+1:]...)
		}
	}
	for h.Flight() > 0 {
		h.deliver(0, api.OK)
	}
}

func TestRoundsAnswerAlwaysTheSame(t *testing.T) { // P13: however the parts are run
	var first string
	for i := range 200 {
		c := api.Config{Producers: 6, Parts: 4, Timeout: 5, Backoff: 4}
		h := turned(t, c, []int{3, 2, 1, 0, 3, 0}, []int{0, 2, 4, 1, 3, 5})
		h.round(6)
		told := tell(h, c)
		if i == 0 {
			first = told
		}
		if told != first {
			t.Fatalf("a Round was:\n%s\nthe first one was:\n%s", told, first)
		}
	}
}

func TestHeraldsAtTheSameTime(t *testing.T) { // P2, P13: each in a goroutine of its own
	const heralds = 16
	var all sync.WaitGroup
	var told [heralds]string
	for i := range told {
		h, _ := crowd(t)
		all.Go(func() {
			for range 20 {
				h.Round()
				h.Add(0, 1, 1)
				h.Produce(0, 1, 1, "y")
				h.Add(1, 1, 0)
				h.End(1, 1, true)
			}
			told[i] = tell(h, plain)
		})
	}
	all.Wait()
	for i := range told {
		if told[i] != told[0] {
			t.Errorf("herald %d is at:\n%s\nthe first one is at:\n%s", i, told[i], told[0])
		}
	}
}

// gone waits until no more goroutines are there than were ahead: one that has ended may be counted for a moment yet.
func gone(ahead int) error {
	for range 200 {
		if runtime.NumGoroutine() <= ahead {
			return nil
		}
		time.Sleep(5 * time.Millisecond)
	}
	return fmt.Errorf("%d goroutines ahead, %d behind", ahead, runtime.NumGoroutine())
}

func TestGoroutinesHaveEnded(t *testing.T) { // P1
	for name, begin := range map[string]func() hand{
		"nothing in flight": func() hand { return fresh(t, api.Config{Producers: 6, Parts: 4, Timeout: 5, Backoff: 4}) },
		"markers":           func() hand { h, _ := crowd(t); return h },
		"many markers":      func() hand { return filled(t, api.MaxFlight) },
		"a part is out":     func() hand { h, _ := crowd(t); h.out(1, true, api.OK); return h },
		"the keeper is down": func() hand {
			h, _ := crowd(t)
			h.crash(api.OK)
			return h
		},
		"a break": func() hand { h, _ := crowd(t); h.breaks(3, api.OK); return h },
		"a break in the Tick": func() hand {
			h := begun(t, api.Config{Producers: 1, Parts: 4, Timeout: 1, Backoff: 1}, 0)
			h.breaks(3, api.OK)
			return h
		},
	} {
		t.Run(name, func(t *testing.T) {
			h := begin()
			ahead := runtime.NumGoroutine()
			for range 50 {
				h.Round()
			}
			if e := gone(ahead); e != nil {
				t.Error(e)
			}
		})
	}
}

func TestNoOtherCallLeavesAGoroutine(t *testing.T) { // P1
	ahead := runtime.NumGoroutine()
	for seed := range 10 {
		drawnInto(t, plain, seed)
	}
	if e := gone(ahead); e != nil {
		t.Error(e)
	}
}
