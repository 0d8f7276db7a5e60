package herald_test

import (
	"math"
	"math/rand"
	"strings"
	"testing"

	"herald/api"
)

// drawNumber: mostly one below this, at times the one at its edge or far off.
func drawNumber(r *rand.Rand, below int) int {
	if r.Intn(15) == 0 {
		return append(none, -1, below)[r.Intn(len(none)+2)]
	}
	return r.Intn(below)
}

// drawEpoch: mostly the producer's own.
func drawEpoch(r *rand.Rand, m *model, producer int) int {
	epoch := m.at(producer).Epoch
	if r.Intn(8) == 0 {
		return []int{epoch - 1, epoch + 1, 0, -1, -epoch, math.MinInt, math.MaxInt}[r.Intn(7)]
	}
	return epoch
}

// chance is how often each call is drawn.
type chance struct {
	init, add, produce, end, out, breaks, crash, restart int
	tick, deliver, drop, copies, round                   int
}

func (c chance) sum() int {
	return c.init + c.add + c.produce + c.end + c.out + c.breaks + c.crash + c.restart + c.tick + c.deliver + c.drop + c.copies + c.round
}

// step makes one drawn call of both, and holds all that they tell against each other.
func step(h hand, r *rand.Rand, m *model, c chance) api.Errno {
	h.t.Helper()
	producer, part := drawNumber(r, h.c.Producers), drawNumber(r, h.c.Parts)
	epoch, yes := drawEpoch(r, m, producer), r.Intn(2) == 0
	var want api.Errno
	k := drawNumber(r, max(1, m.Flight()))
	n := r.Intn(c.sum())
	below := func(share int) bool { n -= share; return n < 0 }
	switch {
	case below(c.init):
		var given int
		given, want = m.Init(producer)
		h.init(producer, given, want)
	case below(c.add):
		want = m.Add(producer, epoch, part)
		h.add(producer, epoch, part, want)
	case below(c.produce):
		text := strings.Repeat(string([]byte{byte(r.Intn(256))}), r.Intn(10))
		want = m.Produce(producer, epoch, part, text)
		h.produce(producer, epoch, part, text, want)
	case below(c.end):
		want = m.End(producer, epoch, yes)
		h.end(producer, epoch, yes, want)
	case below(c.out):
		want = m.Out(part, yes)
		h.out(part, yes, want)
	case below(c.breaks):
		keep := drawNumber(r, 18)
		want = m.Break(keep)
		h.breaks(keep, want)
	case below(c.crash):
		want = m.Crash()
		h.crash(want)
	case below(c.tick):
		want = m.Tick()
		h.tick(want)
	case below(c.deliver):
		want = m.Deliver(k)
		h.deliver(k, want)
	case below(c.drop):
		want = m.Drop(k)
		h.drop(k, want)
	case below(c.copies):
		want = m.Copy(k)
		h.copies(k, want)
	case below(c.round):
		h.round(m.Round())
	default:
		want = m.Restart()
		h.restart(want)
	}
	h.stays(tell(m, h.c))
	return want
}

// drawConfig: all numbers that there are, but mostly those at which much happens soon.
func drawConfig(r *rand.Rand) api.Config {
	c := api.Config{Producers: 1 + r.Intn(6), Parts: 1 + r.Intn(4), Timeout: 1 + r.Intn(50), Backoff: 1 + r.Intn(16)}
	if r.Intn(3) > 0 {
		c.Timeout, c.Backoff = 1+r.Intn(8), 1+r.Intn(6)
	}
	return c
}

func TestDrawnCallsAgainstTheModel(t *testing.T) { // P5 to P14
	for name, c := range map[string]chance{
		"no time": {init: 8, add: 10, produce: 12, end: 2, out: 4, breaks: 3, crash: 1, restart: 4},
		"calm":    {init: 4, add: 12, produce: 12, end: 8, tick: 8, deliver: 20, drop: 1, copies: 1, restart: 1},
		"rounds":  {init: 4, add: 12, produce: 8, end: 6, out: 1, crash: 1, restart: 6, tick: 2, deliver: 3, drop: 1, copies: 3, round: 6},
		"breaks":  {init: 4, add: 14, produce: 6, end: 8, breaks: 6, crash: 1, restart: 12, tick: 8, deliver: 16, copies: 2, round: 5},
		"storm":   {init: 4, add: 12, produce: 6, end: 8, out: 3, breaks: 1, crash: 1, restart: 6, tick: 10, deliver: 10, drop: 6, copies: 8, round: 1},
		"silence": {init: 4, add: 8, produce: 3, end: 1, restart: 1, tick: 30, deliver: 6, drop: 6, round: 3},
	} {
		t.Run(name, func(t *testing.T) {
			seen := map[api.Errno]int{}
			for seed := range 100 {
				r := rand.New(rand.NewSource(int64(seed)))
				settings := drawConfig(r)
				h, m := fresh(t, settings), newModel(settings)
				for range 160 {
					seen[step(h, r, m, c)]++
				}
			}
			for e := api.OK; e <= api.ErrNot; e++ {
				if name == "storm" && e != api.ErrConfig && seen[e] == 0 {
					t.Errorf("no drawn call was answered by the error %d", e)
				}
			}
		})
	}
}

func TestDrawnCallsNearAFullFlight(t *testing.T) { // P10, P13
	full := 0
	for seed := range 20 {
		r := rand.New(rand.NewSource(int64(seed)))
		c := api.Config{Producers: 6, Parts: 4, Timeout: 2, Backoff: 1 + r.Intn(2)}
		h, m := fresh(t, c), newModel(c)
		for n := range c.Producers {
			epoch, e := m.Init(n)
			h.init(n, epoch, e)
			for part := range c.Parts {
				h.add(n, 1, part, m.Add(n, 1, part))
			}
		}
		for i := range 120 {
			share := 0
			if i > 100 {
				share = 1
			}
			step(h, r, m, chance{add: 1, tick: 12, deliver: 6, drop: 2, copies: 12, round: share})
			if m.Flight() == api.MaxFlight {
				full++
			}
		}
	}
	if full < 20 {
		t.Errorf("behind %d drawn calls as many were in flight as may be", full)
	}
}

func TestDrawnCallsNearAFullLog(t *testing.T) { // P7
	full := 0
	for seed := range 20 {
		r := rand.New(rand.NewSource(int64(seed)))
		c := api.Config{Producers: 6, Parts: 2, Timeout: 5, Backoff: 4}
		h, m := fresh(t, c), newModel(c)
		for n := range c.Producers {
			epoch, e := m.Init(n)
			h.init(n, epoch, e)
		}
		h.add(0, 1, 0, m.Add(0, 1, 0))
		for range api.MaxLog - 3 {
			h.produce(0, 1, 0, "x", m.Produce(0, 1, 0, "x"))
		}
		for range 60 {
			if step(h, r, m, chance{add: 20, produce: 40, end: 1, out: 10, breaks: 2, crash: 1, restart: 8}) == api.ErrFull {
				full++
			}
		}
	}
	if full == 0 {
		t.Error("no drawn log came to be full")
	}
}
