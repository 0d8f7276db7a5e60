package herald_test

import (
	"math"
	"strings"
	"testing"

	"herald/api"
	"herald/herald"
)

func TestNewBounds(t *testing.T) { // P5
	for i, most := range []int{6, 4, 50, 16} {
		for _, n := range []int{math.MinInt, -1, 0, 1, 2, 3, 4, 5, 6, 7, 15, 16, 17, 49, 50, 51, 256, 1 << 32, math.MaxInt} {
			c := plain
			*[]*int{&c.Producers, &c.Parts, &c.Timeout, &c.Backoff}[i] = n
			h, e := herald.New(c)
			if n >= 1 && n <= most {
				if h == nil || e != api.OK {
					t.Errorf("New(%+v) = %v, %d", c, h, e)
				}
			} else if h != nil || e != api.ErrConfig {
				t.Errorf("New(%+v) = %v, %d, want none, ErrConfig", c, h, e)
			}
		}
	}
	for _, c := range []api.Config{{}, {Producers: 7, Parts: 5, Timeout: 51, Backoff: 17}, {Producers: -1, Parts: -1, Timeout: -1, Backoff: -1}} {
		if h, e := herald.New(c); h != nil || e != api.ErrConfig {
			t.Errorf("New(%+v) = %v, %d, want none, ErrConfig", c, h, e)
		}
	}
}

func TestNewHerald(t *testing.T) { // P5
	for _, c := range []api.Config{plain, {Producers: 1, Parts: 1, Timeout: 1, Backoff: 1}, {Producers: 6, Parts: 4, Timeout: 50, Backoff: 16}} {
		h := fresh(t, c)
		for n := range c.Producers {
			h.producer(n, idle(0, 0))
		}
		for n := range c.Parts {
			h.part(n, api.Part{})
			h.entries(n)
			h.fetch(n, 0, 9)
		}
		h.journal()
		h.flight()
		h.restart(api.ErrUp)
		before := tell(h, c)
		h.init(c.Producers, 0, api.ErrProducer)
		h.out(c.Parts, true, api.ErrPart)
		h.stays(before)
		h.init(c.Producers-1, 1, api.OK)
		h.add(c.Producers-1, 1, c.Parts-1, api.OK)
		h.producer(c.Producers-1, ongoing(1, 1, c.Parts-1))
		h.part(c.Parts-1, api.Part{Open: []int{c.Producers - 1}})
	}
}

func TestInit(t *testing.T) { // P6
	h := fresh(t, plain)
	for epoch := 1; epoch <= 3; epoch++ {
		h.init(0, epoch, api.OK)
		h.producer(0, idle(epoch, 0))
	}
	h.producer(1, idle(0, 0))
	h.init(1, 1, api.OK)
	h.producer(0, idle(3, 0))
	h.producer(1, idle(1, 0))
}

func TestInitAbortsWhatIsOngoing(t *testing.T) { // P6, example 4
	h := fresh(t, plain)
	h.init(0, 1, api.OK)
	h.init(1, 1, api.OK)
	h.add(1, 1, 0, api.OK)
	h.add(0, 1, 1, api.OK)
	h.add(0, 1, 0, api.OK)
	h.produce(0, 1, 0, "a", api.OK)
	h.init(0, 0, api.ErrBusy)
	h.producer(0, ending(1, 1, false, 0, 1))
	h.producer(1, ongoing(1, 1, 0))
	h.part(0, api.Part{End: 1, Open: []int{0, 1}}) // the marker is not there yet
	h.part(1, api.Part{Open: []int{0}})
	before := tell(h, plain)
	h.init(0, 0, api.ErrBusy) // the epoch stays, and one decision is enough
	h.end(0, 1, true, api.ErrBusy)
	h.stays(before)
}

func TestInitLeavesADecision(t *testing.T) { // P6
	for _, commit := range []bool{true, false} {
		h := fresh(t, plain)
		h.init(0, 1, api.OK)
		h.add(0, 1, 1, api.OK)
		h.end(0, 1, commit, api.OK)
		before := tell(h, plain)
		h.init(0, 0, api.ErrBusy)
		h.stays(before)
	}
}

func TestInitNamesTheFirstError(t *testing.T) { // P1, P6
	h := fresh(t, plain)
	h.init(0, 1, api.OK)
	h.add(0, 1, 0, api.OK)
	h.crash(api.OK)
	h.init(2, 0, api.ErrProducer)
	h.init(0, 0, api.ErrDown)
	h.restart(api.OK)
	h.producer(0, ongoing(1, 1, 0))
	h.init(0, 0, api.ErrBusy)
}

func TestAdd(t *testing.T) { // P7
	c := api.Config{Producers: 2, Parts: 4, Timeout: 5, Backoff: 4}
	h := fresh(t, c)
	h.init(0, 1, api.OK)
	h.init(1, 1, api.OK)
	h.add(0, 1, 2, api.OK)
	h.producer(0, ongoing(1, 1, 2))
	h.add(0, 1, 0, api.OK)
	h.add(0, 1, 3, api.OK)
	h.add(1, 1, 2, api.OK)
	h.producer(0, ongoing(1, 1, 0, 2, 3))
	h.producer(1, ongoing(1, 1, 2))
	for n, open := range [][]int{{0}, nil, {0, 1}, {0}} {
		h.part(n, api.Part{Open: open})
	}
	before := tell(h, c)
	h.add(0, 1, 0, api.OK)
	h.add(0, 1, 2, api.OK)
	h.stays(before) // it had these already
}

func TestAddNamesTheFirstError(t *testing.T) { // P1, P7
	h := fresh(t, plain)
	h.init(0, 1, api.OK)
	h.add(0, 1, 0, api.OK)
	h.end(0, 1, true, api.OK)
	h.init(1, 1, api.OK)
	h.out(0, true, api.OK)
	before := tell(h, plain)
	for _, n := range none {
		h.add(n, 1, n, api.ErrProducer)
		h.add(0, 9, n, api.ErrPart)
		h.add(1, n, 0, api.ErrFenced)
	}
	h.add(2, 1, 2, api.ErrProducer)
	h.add(0, 9, 2, api.ErrPart)
	h.add(0, 0, 0, api.ErrFenced)
	h.add(0, 2, 0, api.ErrFenced)
	h.add(0, 1, 0, api.ErrBusy)
	h.add(0, 1, 1, api.ErrBusy)
	h.add(1, 1, 0, api.ErrOut)
	h.stays(before)
	h.crash(api.OK)
	before = tell(h, plain)
	h.add(2, 1, 0, api.ErrProducer)
	h.add(0, 1, 2, api.ErrPart)
	h.add(0, 9, 0, api.ErrDown)
	h.stays(before)
}

func TestEpoch0IsNone(t *testing.T) { // P5, P7, P8
	h := fresh(t, plain)
	before := tell(h, plain)
	h.add(0, 0, 0, api.ErrFenced)
	h.produce(0, 0, 0, "a", api.ErrFenced)
	h.end(0, 0, true, api.ErrFenced)
	h.end(0, 0, false, api.ErrFenced)
	h.add(0, 1, 0, api.ErrFenced)
	h.stays(before)
}

func TestAnOldEpochChangesNothing(t *testing.T) { // P7, P8, example 3
	h := fresh(t, plain)
	h.init(0, 1, api.OK)
	h.init(0, 2, api.OK)
	h.add(0, 1, 0, api.ErrFenced)
	h.add(0, 2, 0, api.OK)
	h.produce(0, 2, 0, "c", api.OK)
	before := tell(h, plain)
	for _, epoch := range []int{math.MinInt, -2, -1, 0, 1, 3, math.MaxInt} {
		h.add(0, epoch, 1, api.ErrFenced)
		h.produce(0, epoch, 0, "x", api.ErrFenced)
		h.end(0, epoch, true, api.ErrFenced)
		h.end(0, epoch, false, api.ErrFenced)
	}
	h.stays(before)
	h.end(0, 2, true, api.OK)
}

func TestProduce(t *testing.T) { // P7
	h := fresh(t, plain)
	h.init(0, 1, api.OK)
	h.add(0, 1, 0, api.OK)
	h.producer(0, ongoing(1, 1, 0))
	h.produce(0, 1, 0, "a", api.OK)
	h.produce(0, 1, 1, "b", api.ErrNot)
	h.fetch(0, 0, 9)
	h.part(0, api.Part{End: 1, Open: []int{0}})
	h.init(1, 1, api.OK)
	h.add(1, 1, 0, api.OK)
	h.produce(1, 1, 0, "", api.OK)
	h.produce(0, 1, 0, "éé\x00\xff\n ", api.OK)
	h.entries(0, data(0, 1, "a"), data(1, 1, ""), data(0, 1, "éé\x00\xff\n "))
	h.entries(1)
	h.producer(0, ongoing(1, 1, 0))
	h.end(0, 1, true, api.OK)
	h.producer(0, ending(1, 1, true, 0))
	h.fetch(0, 0, 9)
	h.part(0, api.Part{End: 3, Open: []int{0, 1}})
	h.journal(record(1, 0, 0, 1), record(2, 0, 0, 1), record(1, 1, 0, 1), record(2, 1, 0, 1), record(3, 0, 1, 1))
}

func TestProduceText(t *testing.T) { // P7: bytes are counted
	for text, want := range map[string]api.Errno{
		"12345678":                           api.OK,
		"123456789":                          api.ErrText,
		"éééé":                               api.OK,
		"ééééx":                              api.ErrText,
		strings.Repeat("\x00", 8):            api.OK,
		strings.Repeat("\xff", 9):            api.ErrText,
		strings.Repeat("text ", 1<<18):       api.ErrText,
		strings.Repeat("x", api.MaxText*256): api.ErrText,
	} {
		h := fresh(t, plain)
		h.init(0, 1, api.OK)
		h.add(0, 1, 0, api.OK)
		h.produce(0, 1, 0, text, want)
		if want == api.OK {
			h.entries(0, data(0, 1, text))
		} else {
			h.entries(0)
		}
	}
}

// full is a herald whose part 0 has as many data entries as it may, of producer 0; producer 1 has an epoch.
func full(t *testing.T) hand {
	t.Helper()
	h := fresh(t, plain)
	h.init(0, 1, api.OK)
	h.init(1, 1, api.OK)
	h.add(0, 1, 0, api.OK)
	for range api.MaxLog {
		h.produce(0, 1, 0, "x", api.OK)
	}
	return h
}

func TestProduceFull(t *testing.T) { // P7
	h := full(t)
	h.add(1, 1, 0, api.OK)
	h.add(0, 1, 1, api.OK)
	h.part(0, api.Part{End: 200, Open: []int{0, 1}})
	before := tell(h, plain)
	h.produce(0, 1, 0, "", api.ErrFull)
	h.produce(1, 1, 0, "x", api.ErrFull)
	h.stays(before)
	h.produce(0, 1, 1, "x", api.OK) // each log counts its own
}

func TestProduceNamesTheFirstError(t *testing.T) { // P1, P7
	h := full(t)
	h.out(0, true, api.OK)
	before := tell(h, plain)
	for _, n := range none {
		h.produce(n, 9, n, long, api.ErrProducer)
		h.produce(0, 9, n, long, api.ErrPart)
	}
	h.produce(2, 9, 2, long, api.ErrProducer)
	h.produce(0, 9, 2, long, api.ErrPart)
	h.produce(0, 9, 0, long, api.ErrText)
	h.produce(1, 9, 0, "x", api.ErrFenced)
	h.produce(1, 0, 0, "x", api.ErrFenced)
	h.produce(1, 1, 0, "x", api.ErrNone)
	h.produce(0, 1, 0, "x", api.ErrOut)
	h.stays(before)
	h.add(1, 1, 1, api.OK)
	h.produce(1, 1, 0, "x", api.ErrNot)
	h.out(0, false, api.OK)
	h.produce(1, 1, 0, "x", api.ErrNot)
	h.produce(0, 1, 0, "x", api.ErrFull)
	h.out(0, true, api.OK)
	h.end(1, 1, true, api.OK)
	h.produce(1, 1, 0, "x", api.ErrBusy) // though it does not have the part, which is out and full
	h.crash(api.OK)
	before = tell(h, plain)
	h.produce(2, 9, 2, long, api.ErrProducer)
	h.produce(0, 9, 2, long, api.ErrPart)
	h.produce(0, 9, 0, long, api.ErrText)
	h.produce(0, 9, 0, "x", api.ErrDown)
	h.stays(before)
}

func TestProduceWhereTheLogHasItNotOpen(t *testing.T) { // P7, P12
	h := full(t)
	h.breaks(journalSize, api.OK)
	h.add(1, 1, 0, api.ErrDown)
	h.restart(api.OK)
	h.producer(1, ongoing(1, 1, 0))
	h.part(0, api.Part{End: 200, Open: []int{0}})
	before := tell(h, plain)
	h.produce(1, 1, 0, "x", api.ErrNot) // ahead of ErrFull
	h.stays(before)
	h.out(0, true, api.OK)
	before = tell(h, plain)
	h.produce(1, 1, 0, "x", api.ErrNot) // and of ErrOut
	h.add(1, 1, 0, api.ErrOut)
	h.stays(before)
	h.out(0, false, api.OK)
	written := h.Journal()
	h.add(1, 1, 0, api.OK)
	h.part(0, api.Part{End: 200, Open: []int{0, 1}})
	h.produce(1, 1, 0, "x", api.ErrFull)
	h.journal(written)
}

func TestEnd(t *testing.T) { // P8
	for _, commit := range []bool{true, false} {
		c := api.Config{Producers: 2, Parts: 4, Timeout: 5, Backoff: 4}
		h := fresh(t, c)
		h.init(0, 1, api.OK)
		h.init(1, 1, api.OK)
		h.add(0, 1, 3, api.OK)
		h.add(0, 1, 1, api.OK)
		h.add(1, 1, 1, api.OK)
		h.produce(0, 1, 3, "a", api.OK)
		h.end(0, 1, commit, api.OK)
		h.producer(0, ending(1, 1, commit, 1, 3))
		h.producer(1, ongoing(1, 1, 1))
		h.entries(3, data(0, 1, "a"))
		h.part(1, api.Part{Open: []int{0, 1}})
		before := tell(h, c)
		h.end(0, 1, true, api.ErrBusy)
		h.end(0, 1, false, api.ErrBusy)
		h.add(0, 1, 3, api.ErrBusy)
		h.add(0, 1, 0, api.ErrBusy)
		h.produce(0, 1, 3, "b", api.ErrBusy)
		h.stays(before)
	}
}

func TestEndWhilePartsAreOut(t *testing.T) { // P8: a decision does not wait for a part
	h := fresh(t, plain)
	h.init(0, 1, api.OK)
	h.add(0, 1, 0, api.OK)
	h.add(0, 1, 1, api.OK)
	h.out(0, true, api.OK)
	h.out(1, true, api.OK)
	h.end(0, 1, true, api.OK)
	h.producer(0, ending(1, 1, true, 0, 1))
}

func TestEndNamesTheFirstError(t *testing.T) { // P1, P8
	h := fresh(t, plain)
	h.init(0, 1, api.OK)
	h.add(0, 1, 0, api.OK)
	h.end(0, 1, false, api.OK)
	h.init(1, 1, api.OK)
	for _, commit := range []bool{true, false} {
		before := tell(h, plain)
		for _, n := range none {
			h.end(n, n, commit, api.ErrProducer)
			h.end(0, n, commit, api.ErrFenced)
			h.end(1, n, commit, api.ErrFenced)
		}
		h.end(2, 1, commit, api.ErrProducer)
		h.end(0, 0, commit, api.ErrFenced)
		h.end(1, 0, commit, api.ErrFenced)
		h.end(1, 1, commit, api.ErrNone)
		h.end(0, 1, commit, api.ErrBusy)
		h.stays(before)
		h.crash(api.OK)
		before = tell(h, plain)
		h.end(2, 9, commit, api.ErrProducer)
		h.end(0, 9, commit, api.ErrDown)
		h.stays(before)
		h.restart(api.OK)
	}
}

func TestOut(t *testing.T) { // P10
	h := fresh(t, plain)
	h.init(0, 1, api.OK)
	h.add(0, 1, 0, api.OK)
	h.produce(0, 1, 0, "a", api.OK)
	for range 2 {
		h.out(0, true, api.OK)
		h.part(0, api.Part{Out: true, End: 1, Open: []int{0}})
		h.part(1, api.Part{})
	}
	h.entries(0, data(0, 1, "a"))
	h.fetch(0, 0, 9)
	h.produce(0, 1, 0, "b", api.ErrOut)
	h.add(0, 1, 0, api.ErrOut) // also one that it has
	h.add(0, 1, 1, api.OK)
	h.crash(api.OK)
	h.out(1, true, api.OK) // parts do not hang on the keeper
	h.restart(api.OK)
	h.part(0, api.Part{Out: true, End: 1, Open: []int{0}})
	h.part(1, api.Part{Out: true, Open: []int{0}})
	h.out(0, false, api.OK)
	h.out(0, false, api.OK)
	h.produce(0, 1, 0, "b", api.OK)
	h.entries(0, data(0, 1, "a"), data(0, 1, "b"))
	before := tell(h, plain)
	for _, n := range append([]int{2}, none...) {
		h.out(n, true, api.ErrPart)
		h.out(n, false, api.ErrPart)
	}
	h.stays(before)
}
