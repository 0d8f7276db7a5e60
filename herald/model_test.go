package herald_test

import (
	"slices"
	"strings"

	"herald/api"
	"herald/part"
)

// deed is one that the journal tells of.
type deed struct{ kind, producer, detail, number int }

// model is the promises said once more, as near to their words as can be: it keeps the deeds, and works out of them at each call what a producer is at.
type model struct {
	c     api.Config
	deeds []deed
	tail  string // what a break left of a record
	up    bool
	keep  []int // of a break that waits, if one does
	out   []bool
	logs  []*part.Log

	time   int
	spoke  [api.MaxProducers]int                 // when a producer was not silent last
	acked  [api.MaxProducers][api.MaxParts]bool  // which parts have acknowledged the end of its transaction
	told   [api.MaxProducers][api.MaxParts][]int // and when they were sent markers of it
	flight []api.Message
}

func newModel(c api.Config) *model {
	m := &model{c: c, up: true, out: make([]bool, c.Parts)}
	for range c.Parts {
		m.logs = append(m.logs, part.New())
	}
	return m
}

func (m *model) at(producer int) api.Producer {
	p := api.Producer{}
	for _, d := range m.deeds {
		switch {
		case d.producer != producer:
		case d.kind == api.REpoch:
			p.Epoch = d.number
		case d.kind == api.RAdd:
			p.Txn, p.Status, p.Parts = d.number, api.Ongoing, append(p.Parts, d.detail)
			slices.Sort(p.Parts)
		case d.kind == api.REnd:
			p.Status = []int{api.Aborting, api.Committing}[d.detail]
		case d.kind == api.RDone:
			p.Status, p.Parts = api.Idle, nil
		}
	}
	if p.Status == api.Committing || p.Status == api.Aborting {
		for _, part := range p.Parts {
			if !m.acked[producer][part] {
				p.Pending = append(p.Pending, part)
			}
		}
	}
	return p
}

// abort is what is done to an Ongoing producer, and end what is done by its own will.
func (m *model) abort(producer int) bool { return m.end(producer, 0) }

func (m *model) end(producer, commit int) bool {
	if !m.note(api.REnd, producer, commit, m.at(producer).Txn) {
		return false
	}
	m.acked[producer] = [api.MaxParts]bool{}
	m.told[producer] = [api.MaxParts][]int{}
	return true
}

// note puts a deed into the journal; false, if the keeper breaks in it.
func (m *model) note(kind, producer, detail, number int) bool {
	if m.keep != nil {
		bytes := record(kind, producer, detail, number)
		if m.keep[0] >= len(bytes) {
			m.deeds = append(m.deeds, deed{kind, producer, detail, number})
		} else if m.keep[0] > 0 {
			m.tail = bytes[:m.keep[0]]
		}
		m.up, m.keep = false, nil
		return false
	}
	m.deeds = append(m.deeds, deed{kind, producer, detail, number})
	return true
}

// first is the first of these errors that applies.
func first(errors ...struct {
	e       api.Errno
	applies bool
}) api.Errno {
	for _, x := range errors {
		if x.applies {
			return x.e
		}
	}
	return api.OK
}

func when(e api.Errno, applies bool) struct {
	e       api.Errno
	applies bool
} {
	return struct {
		e       api.Errno
		applies bool
	}{e, applies}
}

func (m *model) noProducer(n int) bool { return n < 0 || n >= m.c.Producers }

func (m *model) noPart(n int) bool { return n < 0 || n >= m.c.Parts }

func (m *model) Init(producer int) (int, api.Errno) {
	p := m.at(producer)
	switch e := first(when(api.ErrProducer, m.noProducer(producer)), when(api.ErrDown, !m.up), when(api.ErrBusy, p.Status != api.Idle)); {
	case e == api.ErrBusy && p.Status == api.Ongoing:
		m.abort(producer)
		return 0, e
	case e != api.OK:
		return 0, e
	case !m.note(api.REpoch, producer, 0, p.Epoch+1):
		return 0, api.ErrDown
	}
	return p.Epoch + 1, api.OK
}

func (m *model) Add(producer, epoch, part int) api.Errno {
	p := m.at(producer)
	e := first(
		when(api.ErrProducer, m.noProducer(producer)),
		when(api.ErrPart, m.noPart(part)),
		when(api.ErrDown, !m.up),
		when(api.ErrFenced, epoch != p.Epoch || epoch == 0),
		when(api.ErrBusy, p.Status == api.Committing || p.Status == api.Aborting),
	)
	if e == api.OK && m.out[part] {
		e = api.ErrOut
	}
	if e != api.OK {
		return e
	}
	txn := p.Txn
	if p.Status == api.Idle {
		txn++
	}
	if !slices.Contains(p.Parts, part) && !m.note(api.RAdd, producer, part, txn) {
		return api.ErrDown
	}
	m.logs[part].Open(producer, txn)
	m.spoke[producer] = m.time
	return api.OK
}

func (m *model) Produce(producer, epoch, part int, text string) api.Errno {
	p := m.at(producer)
	e := first(
		when(api.ErrProducer, m.noProducer(producer)),
		when(api.ErrPart, m.noPart(part)),
		when(api.ErrText, len(text) > 8),
		when(api.ErrDown, !m.up),
		when(api.ErrFenced, epoch != p.Epoch || epoch == 0),
		when(api.ErrNone, p.Status == api.Idle),
		when(api.ErrBusy, p.Status != api.Ongoing),
		when(api.ErrNot, !slices.Contains(p.Parts, part)),
	)
	if e != api.OK {
		return e
	}
	e = first(
		when(api.ErrNot, !slices.Contains(m.logs[part].Opened(), producer)),
		when(api.ErrOut, m.out[part]),
	)
	if e != api.OK {
		return e
	}
	if e = m.logs[part].Append(producer, p.Txn, text); e == api.OK {
		m.spoke[producer] = m.time
	}
	return e
}

func (m *model) End(producer, epoch int, commit bool) api.Errno {
	p := m.at(producer)
	e := first(
		when(api.ErrProducer, m.noProducer(producer)),
		when(api.ErrDown, !m.up),
		when(api.ErrFenced, epoch != p.Epoch || epoch == 0),
		when(api.ErrNone, p.Status == api.Idle),
		when(api.ErrBusy, p.Status != api.Ongoing),
	)
	detail := 0
	if commit {
		detail = 1
	}
	if e == api.OK && !m.end(producer, detail) {
		return api.ErrDown
	}
	return e
}

// due tells whether a marker is, by when all those ahead of it were sent.
func (m *model) due(sent []int) bool {
	if len(sent) == 0 {
		return true
	}
	later := 1
	for range sent[1:] {
		later = min(later*2, m.c.Backoff)
	}
	return m.time >= sent[len(sent)-1]+later
}

func (m *model) Tick() api.Errno {
	if !m.up {
		return api.ErrDown
	}
	m.time++
	for n := range m.c.Producers {
		p := m.at(n)
		if p.Status == api.Ongoing && m.time >= m.spoke[n]+m.c.Timeout && !m.abort(n) {
			return api.ErrDown
		}
		for _, part := range p.Pending {
			if m.due(m.told[n][part]) {
				m.told[n][part] = append(m.told[n][part], m.time)
				m.send(api.Message{Kind: api.MMarker, Part: part, Producer: n, Txn: p.Txn, Commit: p.Status == api.Committing})
			}
		}
	}
	return api.OK
}

func (m *model) send(x api.Message) {
	if len(m.flight) < 100 {
		m.flight = append(m.flight, x)
	}
}

func (m *model) Flight() int { return len(m.flight) }

func (m *model) Message(k int) (api.Message, api.Errno) {
	if k < 0 || k >= len(m.flight) {
		return api.Message{}, api.ErrNone
	}
	return m.flight[k], api.OK
}

func (m *model) Drop(k int) api.Errno {
	_, e := m.Message(k)
	if e == api.OK {
		m.flight = append(slices.Clone(m.flight[:k]), m.flight[k+1:]...)
	}
	return e
}

func (m *model) Copy(k int) api.Errno {
	x, e := m.Message(k)
	if e == api.OK {
		m.send(x)
	}
	return e
}

func (m *model) Deliver(k int) api.Errno {
	x, e := m.Message(k)
	if e != api.OK {
		return e
	}
	m.Drop(k)
	if x.Kind == api.MAck {
		m.atKeeper(x)
	} else if !m.out[x.Part] {
		m.atPart(x)
		x.Kind = api.MAck
		m.send(x)
	}
	return api.OK
}

func (m *model) atPart(x api.Message) { m.logs[x.Part].Close(x.Producer, x.Txn, x.Commit) }

func (m *model) atKeeper(x api.Message) {
	p := m.at(x.Producer)
	if !m.up || p.Txn != x.Txn || len(p.Pending) == 0 {
		return
	}
	if len(p.Pending) == 1 && p.Pending[0] == x.Part {
		m.note(api.RDone, x.Producer, 0, x.Txn)
	} else {
		m.acked[x.Producer][x.Part] = true
	}
}

func (m *model) Round() int {
	var acks []api.Message
	all := m.flight
	m.flight = nil
	for _, x := range all {
		if x.Kind == api.MAck {
			acks = append(acks, x)
		}
	}
	for part := range m.c.Parts {
		for _, x := range all {
			if x.Kind == api.MMarker && x.Part == part && !m.out[part] {
				m.atPart(x)
				x.Kind = api.MAck
				acks = append(acks, x)
			}
		}
	}
	for _, x := range acks {
		m.atKeeper(x)
	}
	m.Tick()
	return len(all)
}

func (m *model) Out(part int, out bool) api.Errno {
	if m.noPart(part) {
		return api.ErrPart
	}
	m.out[part] = out
	return api.OK
}

func (m *model) Break(keep int) api.Errno {
	if !m.up {
		return api.ErrDown
	}
	m.keep = []int{keep}
	return api.OK
}

func (m *model) Crash() api.Errno {
	if !m.up {
		return api.ErrDown
	}
	m.up, m.keep = false, nil
	return api.OK
}

func (m *model) Restart() api.Errno {
	if m.up {
		return api.ErrUp
	}
	m.up, m.tail = true, ""
	for n := range m.c.Producers {
		m.spoke[n] = m.time
		m.acked[n] = [api.MaxParts]bool{}
		m.told[n] = [api.MaxParts][]int{}
	}
	return api.OK
}

func (m *model) Producer(producer int) (api.Producer, api.Errno) {
	if e := first(when(api.ErrProducer, m.noProducer(producer)), when(api.ErrDown, !m.up)); e != api.OK {
		return api.Producer{}, e
	}
	return m.at(producer), api.OK
}

func (m *model) Part(part int) (api.Part, api.Errno) {
	if m.noPart(part) {
		return api.Part{}, api.ErrPart
	}
	l := m.logs[part]
	return api.Part{Out: m.out[part], End: len(l.Entries()), Stable: l.Stable(), Open: l.Opened()}, api.OK
}

func (m *model) Entries(part int) ([]api.Entry, api.Errno) {
	if m.noPart(part) {
		return nil, api.ErrPart
	}
	return m.logs[part].Entries(), api.OK
}

func (m *model) Fetch(part, from, most int) ([]api.Record, api.Errno) {
	if m.noPart(part) {
		return nil, api.ErrPart
	}
	return m.logs[part].Fetch(from, most), api.OK
}

func (m *model) Journal() string {
	var b strings.Builder
	for _, d := range m.deeds {
		b.WriteString(record(d.kind, d.producer, d.detail, d.number))
	}
	return b.String() + m.tail
}
