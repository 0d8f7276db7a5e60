package herald_test

import (
	"fmt"
	"testing"

	"herald/api"
)

// begun is a herald in which producer 0 has an Ongoing transaction of these parts.
func begun(t *testing.T, c api.Config, parts ...int) hand {
	t.Helper()
	h := fresh(t, c)
	h.init(0, 1, api.OK)
	for _, part := range parts {
		h.add(0, 1, part, api.OK)
	}
	return h
}

// decided is such a one that is Committing or Aborting.
func decided(t *testing.T, c api.Config, commit bool, parts ...int) hand {
	t.Helper()
	h := begun(t, c, parts...)
	h.end(0, 1, commit, api.OK)
	return h
}

func TestTickAlone(t *testing.T) { // P9: time goes by, and nothing else
	h := fresh(t, plain)
	h.init(0, 1, api.OK)
	before := tell(h, plain)
	h.ticks(60)
	h.stays(before)
	h.breaks(0, api.OK)
	h.ticks(60) // where nothing is written nothing breaks
	h.stays(before)
}

func TestTickOfAKeeperThatIsDown(t *testing.T) { // P9
	h := decided(t, plain, true, 0)
	h.crash(api.OK)
	before := tell(h, plain)
	for range 9 {
		h.tick(api.ErrDown)
	}
	h.stays(before)
}

func TestTimeout(t *testing.T) { // P9: at each setting
	for timeout := 1; timeout <= api.MaxTimeout; timeout++ {
		c := api.Config{Producers: 2, Parts: 2, Timeout: timeout, Backoff: 4}
		h := begun(t, c, 0, 1)
		h.produce(0, 1, 1, "a", api.OK)
		before := tell(h, c)
		h.ticks(timeout - 1)
		h.stays(before)
		written := h.Journal()
		h.tick(api.OK)
		h.producer(0, ending(1, 1, false, 0, 1))
		h.producer(1, idle(0, 0))
		h.journal(written, record(3, 0, 0, 1))
		h.flight() // its markers are due at the next one
		h.part(1, api.Part{End: 1, Open: []int{0}})
		h.tick(api.OK)
		h.flight(marker(0, 0, 1, false), marker(1, 0, 1, false))
	}
}

func TestWhoSpeaksIsNotSilent(t *testing.T) { // P7, P9
	for timeout := 1; timeout <= 7; timeout++ {
		for name, speak := range map[string]func(hand){
			"Add of a part that it has":         func(h hand) { h.add(0, 1, 0, api.OK) },
			"Add of one that it does not have":  func(h hand) { h.add(0, 1, 1, api.OK) },
			"Produce":                           func(h hand) { h.produce(0, 1, 0, "a", api.OK) },
			"Produce of an empty text":          func(h hand) { h.produce(0, 1, 0, "", api.OK) },
			"the keeper's crash and its return": func(h hand) { h.crash(api.OK); h.restart(api.OK) },
		} {
			t.Run(fmt.Sprint(name, timeout), func(t *testing.T) {
				c := api.Config{Producers: 2, Parts: 2, Timeout: timeout, Backoff: 4}
				h := begun(t, c, 0)
				for range 3 {
					h.ticks(timeout - 1)
					speak(h)
				}
				h.ticks(timeout - 1)
				if p, _ := h.Producer(0); p.Status != api.Ongoing {
					t.Errorf("behind %d ticks: %+v", timeout-1, p)
				}
				h.tick(api.OK)
				if p, _ := h.Producer(0); p.Status != api.Aborting {
					t.Errorf("behind %d ticks: %+v", timeout, p)
				}
			})
		}
	}
}

func TestWhoIsRefusedIsSilent(t *testing.T) { // P1, P9: an error changes nothing
	for name, speak := range map[string]func(hand){
		"Add of no part":            func(h hand) { h.add(0, 1, 2, api.ErrPart) },
		"Add by an old epoch":       func(h hand) { h.add(0, 0, 0, api.ErrFenced) },
		"Add of a part that is out": func(h hand) { h.out(1, true, api.OK); h.add(0, 1, 1, api.ErrOut) },
		"Produce of a long text":    func(h hand) { h.produce(0, 1, 0, long, api.ErrText) },
		"Produce by an old epoch":   func(h hand) { h.produce(0, 2, 0, "a", api.ErrFenced) },
		"Produce into another part": func(h hand) { h.produce(0, 1, 1, "a", api.ErrNot) },
		"Produce into one that is out": func(h hand) {
			h.out(0, true, api.OK)
			h.produce(0, 1, 0, "a", api.ErrOut)
			h.out(0, false, api.OK)
		},
		"End by an old epoch":      func(h hand) { h.end(0, 2, true, api.ErrFenced) },
		"a call of another one":    func(h hand) { h.init(1, 1, api.OK); h.add(1, 1, 0, api.OK); h.produce(1, 1, 0, "a", api.OK) },
		"Restart of one that's up": func(h hand) { h.restart(api.ErrUp) },
		"a telling":                func(h hand) { tell(h, h.c); h.Producer(0) },
	} {
		t.Run(name, func(t *testing.T) {
			h := begun(t, plain, 0)
			h.ticks(4)
			speak(h)
			h.tick(api.OK)
			h.producer(0, ending(1, 1, false, 0))
		})
	}
}

func TestAFullLogIsNoSign(t *testing.T) { // P1, P9: nor is ErrFull
	h := full(t)
	h.ticks(4)
	h.produce(0, 1, 0, "x", api.ErrFull)
	h.tick(api.OK)
	h.producer(0, ending(1, 1, false, 0))
}

func TestSilenceBeginsWithTheTransaction(t *testing.T) { // P9
	h := firstExample(t)
	h.ticks(30) // while it is Idle
	h.add(0, 1, 0, api.OK)
	h.ticks(4)
	h.producer(0, ongoing(1, 2, 0))
	h.tick(api.OK)
	h.producer(0, ending(1, 2, false, 0))
	h.tick(api.OK)
	h.deliver(0, api.OK)
	h.ticks(9) // while it is Aborting
	h.dropAll()
	h.tick(api.OK)
	for h.Flight() == 0 {
		h.tick(api.OK)
	}
	h.deliver(0, api.OK)
	h.deliver(0, api.OK)
	h.producer(0, idle(1, 2))
	h.add(0, 1, 1, api.OK)
	h.ticks(4)
	h.producer(0, ongoing(1, 3, 1))
	h.tick(api.OK)
	h.producer(0, ending(1, 3, false, 1))
}

// sentAt is the ticks, up to the last one, at which markers are sent, and all that is sent is lost.
func sentAt(h hand, last int) []int {
	h.t.Helper()
	var at []int
	for i := 1; i <= last; i++ {
		h.tick(api.OK)
		if h.dropAll() > 0 {
			at = append(at, i)
		}
	}
	return at
}

func TestBackoff(t *testing.T) { // P9: at some settings, written out
	for backoff, want := range map[int][]int{
		1:  {1, 2, 3, 4, 5, 6, 7, 8, 9, 10, 11, 12},
		2:  {1, 2, 4, 6, 8, 10, 12},
		3:  {1, 2, 4, 7, 10, 13, 16, 19},
		4:  {1, 2, 4, 8, 12, 16, 20},
		5:  {1, 2, 4, 8, 13, 18, 23},
		7:  {1, 2, 4, 8, 15, 22, 29},
		8:  {1, 2, 4, 8, 16, 24, 32, 40},
		9:  {1, 2, 4, 8, 16, 25, 34},
		15: {1, 2, 4, 8, 16, 31, 46},
		16: {1, 2, 4, 8, 16, 32, 48, 64, 80},
	} {
		for _, commit := range []bool{true, false} {
			h := decided(t, api.Config{Producers: 1, Parts: 1, Timeout: 1, Backoff: backoff}, commit, 0)
			if got := sentAt(h, want[len(want)-1]); fmt.Sprint(got) != fmt.Sprint(want) {
				t.Errorf("Backoff %d: markers are sent at %v, want %v", backoff, got, want)
			}
			h.producer(0, ending(1, 1, commit, 0))
		}
	}
}

func TestBackoffDoesNotGrowPastItself(t *testing.T) { // P9, P1: however long
	h := decided(t, api.Config{Producers: 1, Parts: 1, Timeout: 1, Backoff: 16}, true, 0)
	sentAt(h, 16*200)
	for range 3 {
		h.ticks(15)
		h.flight()
		h.tick(api.OK)
		h.flight(marker(0, 0, 1, true))
		h.dropAll()
	}
}

func TestMarkersGoToPendingPartsAlone(t *testing.T) { // P9
	h := decided(t, api.Config{Producers: 3, Parts: 4, Timeout: 5, Backoff: 4}, true, 3, 0, 2)
	h.tick(api.OK)
	h.flight(marker(0, 0, 1, true), marker(2, 0, 1, true), marker(3, 0, 1, true))
	h.deliver(1, api.OK)
	h.deliver(2, api.OK)
	h.producer(0, waiting(1, 1, true, []int{0, 2, 3}, []int{0, 3}))
	h.dropAll()
	h.tick(api.OK)
	h.flight(marker(0, 0, 1, true), marker(3, 0, 1, true))
	h.deliver(1, api.OK)
	h.dropAll() // with the acknowledgement
	h.tick(api.OK)
	h.flight()
	h.tick(api.OK)
	h.flight(marker(0, 0, 1, true), marker(3, 0, 1, true)) // 2 ticks later, for both
	h.deliver(0, api.OK)
	h.deliver(1, api.OK)
	h.producer(0, waiting(1, 1, true, []int{0, 2, 3}, []int{3}))
	h.dropAll()
	h.ticks(3)
	h.flight()
	h.tick(api.OK)
	h.flight(marker(3, 0, 1, true))
	h.deliver(0, api.OK)
	h.deliver(0, api.OK)
	h.producer(0, idle(1, 1))
	h.ticks(20)
	h.flight()
}

func TestTheNextTransactionBeginsItsMarkersAnew(t *testing.T) { // P8, P9
	h := decided(t, plain, true, 0)
	sentAt(h, 19)
	h.tick(api.OK)
	h.deliver(0, api.OK)
	h.deliver(0, api.OK)
	h.add(0, 1, 1, api.OK)
	h.end(0, 1, false, api.OK)
	if got, want := fmt.Sprint(sentAt(h, 12)), "[1 2 4 8 12]"; got != want {
		t.Errorf("markers are sent at %s, want %s", got, want)
	}
}

func TestTickTakesProducersByRisingNumbers(t *testing.T) { // P9, P11
	h := fresh(t, api.Config{Producers: 6, Parts: 2, Timeout: 3, Backoff: 4})
	for _, n := range []int{5, 2, 4, 0, 3} {
		h.init(n, 1, api.OK)
		h.add(n, 1, 1, api.OK)
		h.add(n, 1, 0, api.OK)
	}
	h.end(4, 1, true, api.OK)
	h.tick(api.OK)
	h.flight(marker(0, 4, 1, true), marker(1, 4, 1, true))
	h.end(3, 1, false, api.OK)
	h.end(0, 1, true, api.OK)
	h.dropAll()
	h.tick(api.OK)
	h.flight(marker(0, 0, 1, true), marker(1, 0, 1, true), marker(0, 3, 1, false), marker(1, 3, 1, false), marker(0, 4, 1, true), marker(1, 4, 1, true))
	written := h.Journal()
	h.tick(api.OK) // 2 and 5 are silent now
	h.journal(written, record(3, 2, 0, 1), record(3, 5, 0, 1))
	h.dropAll()
	h.tick(api.OK)
	h.flight(marker(0, 2, 1, false), marker(1, 2, 1, false), marker(0, 4, 1, true), marker(1, 4, 1, true), marker(0, 5, 1, false), marker(1, 5, 1, false))
}

func TestMarkersGoToPartsThatAreOut(t *testing.T) { // P9: the keeper does not know of that
	h := decided(t, plain, true, 0, 1)
	h.out(0, true, api.OK)
	h.tick(api.OK)
	h.flight(marker(0, 0, 1, true), marker(1, 0, 1, true))
}
