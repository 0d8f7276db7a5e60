package herald_test

import (
	"fmt"
	"math"
	"math/rand"
	"slices"
	"strings"
	"testing"

	"herald/api"
)

// transaction names one: whose, and which of theirs.
type transaction struct{ producer, txn int }

// witness makes drawn calls of a herald, and holds what it saw against what P15 says.
type witness struct {
	hand
	r        *rand.Rand
	waits    bool // a break
	texts    int
	produced [][]api.Entry        // by part: what Produce took
	decided  map[transaction]bool // what End was answered OK for
	fetched  [][]api.Record       // by part: what Fetch told last
	stable   []int
}

func newWitness(t *testing.T, c api.Config, seed int) *witness {
	return &witness{
		hand:     fresh(t, c),
		r:        rand.New(rand.NewSource(int64(seed))),
		produced: make([][]api.Entry, c.Parts),
		decided:  map[transaction]bool{},
		fetched:  make([][]api.Record, c.Parts),
		stable:   make([]int, c.Parts),
	}
}

// act makes one drawn call.
func (w *witness) act() {
	n, part := w.r.Intn(w.c.Producers), w.r.Intn(w.c.Parts)
	p, _ := w.Producer(n)
	k := w.r.Intn(max(1, w.Flight()))
	switch x := w.r.Intn(100); {
	case x < 6:
		w.Init(n)
	case x < 26:
		w.Add(n, p.Epoch, part)
	case x < 44:
		w.texts++
		text := fmt.Sprint(w.texts)
		if w.Produce(n, p.Epoch, part, text) == api.OK {
			w.produced[part] = append(w.produced[part], data(n, p.Txn, text))
		}
	case x < 54:
		commit := w.r.Intn(3) > 0
		if w.End(n, p.Epoch, commit) == api.OK {
			w.decided[transaction{n, p.Txn}] = commit
		}
	case x < 62:
		w.Tick()
	case x < 80:
		w.Deliver(k)
	case x < 83:
		w.Drop(k)
	case x < 86:
		w.Copy(k)
	case x < 89:
		w.Round()
	case x < 92:
		w.Out(part, w.r.Intn(3) == 0)
	case x < 93:
		w.Crash()
	case x < 95:
		w.waits = w.Break(w.r.Intn(18)) == api.OK || w.waits
	default:
		if w.Restart() == api.OK {
			w.waits = false
		}
	}
}

// decisions is what the whole records of the journal tell: of each transaction at most one.
func (w *witness) decisions() map[transaction]bool {
	w.t.Helper()
	all := map[transaction]bool{}
	for written := w.Journal(); len(written) >= journalSize; written = written[journalSize:] {
		if written[0] != api.REnd {
			continue
		}
		number := 0
		for _, b := range []byte(written[4:12]) {
			number = number<<8 + int(b)
		}
		of := transaction{int(written[1]), number}
		if _, known := all[of]; known {
			w.t.Fatalf("the journal tells twice of the end of %+v", of)
		}
		all[of] = written[2] == 1
	}
	return all
}

// look holds all that is told now against what was told and answered ahead of it.
func (w *witness) look() {
	w.t.Helper()
	decisions := w.decisions()
	for of, commit := range w.decided {
		if now, known := decisions[of]; !known || now != commit {
			w.t.Fatalf("End of %+v was %v; now it is %v, %v", of, commit, now, known)
		}
	}
	for n := range w.c.Parts {
		w.lookAt(n, decisions)
	}
}

func (w *witness) lookAt(n int, decisions map[transaction]bool) {
	w.t.Helper()
	p, _ := w.Part(n)
	if p.Stable < w.stable[n] {
		w.t.Fatalf("part %d was stable up to %d, and is up to %d", n, w.stable[n], p.Stable)
	}
	w.stable[n] = p.Stable
	var written []api.Entry
	var want []api.Record
	entries, _ := w.Entries(n)
	for offset, e := range entries {
		commit, known := decisions[transaction{e.Producer, e.Txn}]
		switch {
		case e.Kind != api.EData && (!known || commit != (e.Kind == api.ECommit)):
			w.t.Fatalf("the log of part %d has %+v, the decision is %v, %v", n, e, commit, known)
		case e.Kind == api.EData:
			written = append(written, e)
			if commit && offset < p.Stable {
				want = append(want, api.Record{Offset: offset, Producer: e.Producer, Text: e.Text})
			}
		}
	}
	if !slices.Equal(written, w.produced[n]) {
		w.t.Fatalf("the log of part %d has %v, produced was %v", n, written, w.produced[n])
	}
	fetched, _ := w.Fetch(n, 0, math.MaxInt)
	if !slices.Equal(fetched, want) {
		w.t.Fatalf("part %d tells %v, committed are %v", n, fetched, want)
	}
	if told := w.fetched[n]; len(fetched) < len(told) || !slices.Equal(fetched[:len(told)], told) {
		w.t.Fatalf("part %d has told %v, and tells %v now", n, told, fetched)
	}
	w.fetched[n] = fetched
}

// calm takes all parts in and the keeper up, so that nothing is in the way of the Rounds any more.
func (w *witness) calm() {
	for n := range w.c.Parts {
		w.Out(n, false)
	}
	if w.waits {
		w.Crash() // which ends the break
	}
	w.Restart()
	w.waits = false
}

// settles makes as many Rounds as are promised to be enough, and looks that they were.
func (h hand) settles() {
	h.t.Helper()
	for range h.c.Timeout + 2*h.c.Backoff + 8 {
		h.Round()
	}
	for n := range h.c.Producers {
		if p, e := h.Producer(n); e != api.OK || p.Status != api.Idle || len(p.Parts)+len(p.Pending) > 0 {
			h.t.Fatalf("in the end producer %d is at %+v, %d", n, p, e)
		}
	}
	for n := range h.c.Parts {
		if p, e := h.Part(n); e != api.OK || p.Stable != p.End || len(p.Open) > 0 {
			h.t.Fatalf("in the end part %d is at %+v, %d", n, p, e)
		}
	}
	if n := h.Flight(); n > 0 {
		h.t.Fatalf("in the end %d are in flight", n)
	}
}

func TestWhatComesOfIt(t *testing.T) { // P15
	commits, aborts := 0, 0
	for seed := range 150 {
		c := drawConfig(rand.New(rand.NewSource(int64(seed))))
		w := newWitness(t, c, seed)
		for range 3 {
			for range 120 {
				w.act()
				w.look()
			}
			w.calm()
			w.settles()
			w.look()
		}
		for _, commit := range w.decisions() {
			if commit {
				commits++
			} else {
				aborts++
			}
		}
	}
	if commits < 200 || aborts < 200 {
		t.Errorf("too little was drawn: %d commits, %d aborts", commits, aborts)
	}
}

func TestCommittedIsAllOrNothing(t *testing.T) { // P15: over all parts, in the end
	for seed := range 60 {
		w := newWitness(t, api.Config{Producers: 3, Parts: 4, Timeout: 4, Backoff: 3}, seed)
		for range 200 {
			w.act()
		}
		w.calm()
		w.settles()
		decisions := w.decisions()
		for n := range w.c.Parts {
			var want []string
			for _, e := range w.produced[n] {
				if decisions[transaction{e.Producer, e.Txn}] {
					want = append(want, e.Text)
				}
			}
			var got []string
			fetched, _ := w.Fetch(n, 0, math.MaxInt)
			for _, x := range fetched {
				got = append(got, x.Text)
			}
			if !slices.Equal(got, want) {
				t.Fatalf("part %d tells %v, committed are %v", n, got, want)
			}
		}
	}
}

func TestSettlesAtItsSlowest(t *testing.T) { // P15: at each Timeout and Backoff
	for timeout := 1; timeout <= api.MaxTimeout; timeout++ {
		for backoff := 1; backoff <= api.MaxBackoff; backoff++ {
			c := api.Config{Producers: 3, Parts: 2, Timeout: timeout, Backoff: backoff}
			h := fresh(t, c)
			for n := range 2 {
				h.init(n, 1, api.OK)
				h.add(n, 1, n, api.OK)
			}
			h.end(0, 1, true, api.OK)
			h.out(0, true, api.OK)
			for range 5 * backoff { // as far apart as its markers come
				h.add(1, 1, 1, api.OK)
				if timeout > 1 {
					h.Round()
				}
			}
			h.out(0, false, api.OK)
			h.add(1, 1, 1, api.OK) // and as late as it may be silent
			h.settles()
			h.entries(0, closed(0, 1, true))
			h.entries(1, closed(1, 1, false))
		}
	}
}

func TestAnOldEpochChangesNothingEver(t *testing.T) { // P15
	for seed := range 40 {
		w := newWitness(t, drawConfig(rand.New(rand.NewSource(int64(seed)))), seed)
		for range 150 {
			w.act()
			n, part := w.r.Intn(w.c.Producers), w.r.Intn(w.c.Parts)
			p, e := w.Producer(n)
			if e != api.OK {
				continue
			}
			before := tell(w, w.c)
			for old := range p.Epoch {
				w.add(n, old, part, api.ErrFenced)
				w.produce(n, old, part, "old", api.ErrFenced)
				w.end(n, old, true, api.ErrFenced)
				w.end(n, old, false, api.ErrFenced)
			}
			w.stays(before)
		}
	}
}

func TestADecisionStaysThroughCrashes(t *testing.T) { // P15: a crash at each step of the way to its end
	for _, commit := range []bool{true, false} {
		for crashAt := range 8 {
			h := begun(t, plain, 0, 1)
			h.produce(0, 1, 0, "a", api.OK)
			h.produce(0, 1, 1, "b", api.OK)
			h.end(0, 1, commit, api.OK)
			steps := []func(){
				func() {},
				func() { h.Tick() },
				func() { h.Deliver(0) },
				func() { h.Deliver(1) },
				func() { h.Copy(0) },
				func() { h.Deliver(0) },
				func() { h.Deliver(0) },
				func() { h.Deliver(0) },
			}
			for i, step := range steps {
				step()
				if i == crashAt {
					h.crash(api.OK)
					h.restart(api.OK)
				}
			}
			h.settles()
			for part, text := range []string{"a", "b"} {
				h.entries(part, data(0, 1, text), closed(0, 1, commit))
			}
			if n := strings.Count(h.Journal(), record(4, 0, 0, 1)); n != 1 {
				t.Errorf("the journal tells %d times that all is over", n)
			}
		}
	}
}
