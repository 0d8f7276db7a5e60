package herald_test

import (
	"math"
	"math/rand"
	"slices"
	"strings"
	"testing"

	"herald/api"
	"herald/part"
)

// deed is one that the journal tells of.
type deed struct{ kind, producer, detail, number int }

// model is the promises said once more, as near to their words as can be: it keeps the deeds, and works out of them at each call what a producer is at.
type model struct {
	c     api.Config
	deeds []deed
	tail  string // what a break left of a record
	up    bool
	keep  []int // of a break that waits, if one does
	out   []bool
	logs  []*part.Log
}

func newModel(c api.Config) *model {
	m := &model{c: c, up: true, out: make([]bool, c.Parts)}
	for range c.Parts {
		m.logs = append(m.logs, part.New())
	}
	return m
}

func (m *model) at(producer int) api.Producer {
	p := api.Producer{}
	for _, d := range m.deeds {
		switch {
		case d.producer != producer:
		case d.kind == api.REpoch:
			p.Epoch = d.number
		case d.kind == api.RAdd:
			p.Txn, p.Status, p.Parts = d.number, api.Ongoing, append(p.Parts, d.detail)
			slices.Sort(p.Parts)
		case d.kind == api.REnd:
			p.Status, p.Pending = []int{api.Aborting, api.Committing}[d.detail], p.Parts
		}
	}
	return p
}

// note puts a deed into the journal; false, if the keeper breaks in it.
func (m *model) note(kind, producer, detail, number int) bool {
	if m.keep != nil {
		bytes := record(kind, producer, detail, number)
		if m.keep[0] >= len(bytes) {
			m.deeds = append(m.deeds, deed{kind, producer, detail, number})
		} else if m.keep[0] > 0 {
			m.tail = bytes[:m.keep[0]]
		}
		m.up, m.keep = false, nil
		return false
	}
	m.deeds = append(m.deeds, deed{kind, producer, detail, number})
	return true
}

// first is the first of these errors that applies.
func first(errors ...struct {
	e       api.Errno
	applies bool
}) api.Errno {
	for _, x := range errors {
		if x.applies {
			return x.e
		}
	}
	return api.OK
}

func when(e api.Errno, applies bool) struct {
	e       api.Errno
	applies bool
} {
	return struct {
		e       api.Errno
		applies bool
	}{e, applies}
}

func (m *model) noProducer(n int) bool { return n < 0 || n >= m.c.Producers }

func (m *model) noPart(n int) bool { return n < 0 || n >= m.c.Parts }

func (m *model) Init(producer int) (int, api.Errno) {
	p := m.at(producer)
	switch e := first(when(api.ErrProducer, m.noProducer(producer)), when(api.ErrDown, !m.up), when(api.ErrBusy, p.Status != api.Idle)); {
	case e == api.ErrBusy && p.Status == api.Ongoing:
		m.note(api.REnd, producer, 0, p.Txn)
		return 0, e
	case e != api.OK:
		return 0, e
	case !m.note(api.REpoch, producer, 0, p.Epoch+1):
		return 0, api.ErrDown
	}
	return p.Epoch + 1, api.OK
}

func (m *model) Add(producer, epoch, part int) api.Errno {
	p := m.at(producer)
	e := first(
		when(api.ErrProducer, m.noProducer(producer)),
		when(api.ErrPart, m.noPart(part)),
		when(api.ErrDown, !m.up),
		when(api.ErrFenced, epoch != p.Epoch || epoch == 0),
		when(api.ErrBusy, p.Status == api.Committing || p.Status == api.Aborting),
	)
	if e == api.OK && m.out[part] {
		e = api.ErrOut
	}
	if e != api.OK {
		return e
	}
	txn := p.Txn
	if p.Status == api.Idle {
		txn++
	}
	if !slices.Contains(p.Parts, part) && !m.note(api.RAdd, producer, part, txn) {
		return api.ErrDown
	}
	m.logs[part].Open(producer, txn)
	return api.OK
}

func (m *model) Produce(producer, epoch, part int, text string) api.Errno {
	p := m.at(producer)
	e := first(
		when(api.ErrProducer, m.noProducer(producer)),
		when(api.ErrPart, m.noPart(part)),
		when(api.ErrText, len(text) > 8),
		when(api.ErrDown, !m.up),
		when(api.ErrFenced, epoch != p.Epoch || epoch == 0),
		when(api.ErrNone, p.Status == api.Idle),
		when(api.ErrBusy, p.Status != api.Ongoing),
		when(api.ErrNot, !slices.Contains(p.Parts, part)),
	)
	if e != api.OK {
		return e
	}
	e = first(
		when(api.ErrNot, !slices.Contains(m.logs[part].Opened(), producer)),
		when(api.ErrOut, m.out[part]),
	)
	if e != api.OK {
		return e
	}
	return m.logs[part].Append(producer, p.Txn, text)
}

func (m *model) End(producer, epoch int, commit bool) api.Errno {
	p := m.at(producer)
	e := first(
		when(api.ErrProducer, m.noProducer(producer)),
		when(api.ErrDown, !m.up),
		when(api.ErrFenced, epoch != p.Epoch || epoch == 0),
		when(api.ErrNone, p.Status == api.Idle),
		when(api.ErrBusy, p.Status != api.Ongoing),
	)
	detail := 0
	if commit {
		detail = 1
	}
	if e == api.OK && !m.note(api.REnd, producer, detail, p.Txn) {
		return api.ErrDown
	}
	return e
}

func (m *model) Out(part int, out bool) api.Errno {
	if m.noPart(part) {
		return api.ErrPart
	}
	m.out[part] = out
	return api.OK
}

func (m *model) Break(keep int) api.Errno {
	if !m.up {
		return api.ErrDown
	}
	m.keep = []int{keep}
	return api.OK
}

func (m *model) Crash() api.Errno {
	if !m.up {
		return api.ErrDown
	}
	m.up, m.keep = false, nil
	return api.OK
}

func (m *model) Restart() api.Errno {
	if m.up {
		return api.ErrUp
	}
	m.up, m.tail = true, ""
	return api.OK
}

func (m *model) Producer(producer int) (api.Producer, api.Errno) {
	if e := first(when(api.ErrProducer, m.noProducer(producer)), when(api.ErrDown, !m.up)); e != api.OK {
		return api.Producer{}, e
	}
	return m.at(producer), api.OK
}

func (m *model) Part(part int) (api.Part, api.Errno) {
	if m.noPart(part) {
		return api.Part{}, api.ErrPart
	}
	l := m.logs[part]
	return api.Part{Out: m.out[part], End: len(l.Entries()), Stable: l.Stable(), Open: l.Opened()}, api.OK
}

func (m *model) Entries(part int) ([]api.Entry, api.Errno) {
	if m.noPart(part) {
		return nil, api.ErrPart
	}
	return m.logs[part].Entries(), api.OK
}

func (m *model) Fetch(part, from, most int) ([]api.Record, api.Errno) {
	if m.noPart(part) {
		return nil, api.ErrPart
	}
	return m.logs[part].Fetch(from, most), api.OK
}

func (m *model) Flight() int { return 0 }

func (m *model) Journal() string {
	var b strings.Builder
	for _, d := range m.deeds {
		b.WriteString(record(d.kind, d.producer, d.detail, d.number))
	}
	return b.String() + m.tail
}

// drawNumber: mostly one below this, at times the one at its edge or far off.
func drawNumber(r *rand.Rand, below int) int {
	if r.Intn(15) == 0 {
		return append(none, -1, below)[r.Intn(len(none)+2)]
	}
	return r.Intn(below)
}

// drawEpoch: mostly the producer's own.
func drawEpoch(r *rand.Rand, m *model, producer int) int {
	epoch := m.at(producer).Epoch
	if r.Intn(8) == 0 {
		return []int{epoch - 1, epoch + 1, 0, -1, -epoch, math.MinInt, math.MaxInt}[r.Intn(7)]
	}
	return epoch
}

// chance is how often each call is drawn.
type chance struct{ init, add, produce, end, out, breaks, crash, restart int }

// step makes one drawn call of both, and holds all that they tell against each other.
func step(h hand, r *rand.Rand, m *model, c chance) api.Errno {
	h.t.Helper()
	producer, part := drawNumber(r, h.c.Producers), drawNumber(r, h.c.Parts)
	epoch, yes := drawEpoch(r, m, producer), r.Intn(2) == 0
	var want api.Errno
	n := r.Intn(c.init + c.add + c.produce + c.end + c.out + c.breaks + c.crash + c.restart)
	below := func(share int) bool { n -= share; return n < 0 }
	switch {
	case below(c.init):
		var given int
		given, want = m.Init(producer)
		h.init(producer, given, want)
	case below(c.add):
		want = m.Add(producer, epoch, part)
		h.add(producer, epoch, part, want)
	case below(c.produce):
		text := strings.Repeat(string([]byte{byte(r.Intn(256))}), r.Intn(10))
		want = m.Produce(producer, epoch, part, text)
		h.produce(producer, epoch, part, text, want)
	case below(c.end):
		want = m.End(producer, epoch, yes)
		h.end(producer, epoch, yes, want)
	case below(c.out):
		want = m.Out(part, yes)
		h.out(part, yes, want)
	case below(c.breaks):
		keep := drawNumber(r, 18)
		want = m.Break(keep)
		h.breaks(keep, want)
	case below(c.crash):
		want = m.Crash()
		h.crash(want)
	default:
		want = m.Restart()
		h.restart(want)
	}
	h.stays(tell(m, h.c))
	return want
}

func drawConfig(r *rand.Rand) api.Config {
	return api.Config{Producers: 1 + r.Intn(6), Parts: 1 + r.Intn(4), Timeout: 1 + r.Intn(50), Backoff: 1 + r.Intn(16)}
}

func TestDrawnCallsAgainstTheModel(t *testing.T) { // P5 to P8, P11, P12, P14
	seen := map[api.Errno]int{}
	for seed := range 400 {
		r := rand.New(rand.NewSource(int64(seed)))
		c := drawConfig(r)
		h, m := fresh(t, c), newModel(c)
		for range 80 {
			seen[step(h, r, m, chance{init: 8, add: 10, produce: 12, end: 2, out: 4, breaks: 3, crash: 1, restart: 4})]++
		}
	}
	for e := api.OK; e <= api.ErrNot; e++ {
		if e != api.ErrConfig && seen[e] == 0 {
			t.Errorf("no drawn call was answered by the error %d", e)
		}
	}
}

func TestDrawnCallsNearAFullLog(t *testing.T) { // P7
	full := 0
	for seed := range 20 {
		r := rand.New(rand.NewSource(int64(seed)))
		c := api.Config{Producers: 6, Parts: 2, Timeout: 5, Backoff: 4}
		h, m := fresh(t, c), newModel(c)
		for n := range c.Producers {
			epoch, e := m.Init(n)
			h.init(n, epoch, e)
		}
		h.add(0, 1, 0, m.Add(0, 1, 0))
		for range api.MaxLog - 3 {
			h.produce(0, 1, 0, "x", m.Produce(0, 1, 0, "x"))
		}
		for range 60 {
			if step(h, r, m, chance{add: 20, produce: 40, end: 1, out: 10, breaks: 2, crash: 1, restart: 8}) == api.ErrFull {
				full++
			}
		}
	}
	if full == 0 {
		t.Error("no drawn log came to be full")
	}
}
