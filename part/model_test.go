package part_test

import (
	"math"
	"math/rand"
	"slices"
	"strings"
	"testing"

	"herald/api"
	"herald/part"
)

// model is P3 and P4 said once more, as near to their words as can be: it keeps all that ever was and looks it through at each call.
type model struct {
	entries []api.Entry
	opens   [][2]int // producer, txn
}

func (m *model) ended(producer, txn, kind int) bool {
	return slices.Contains(m.entries, api.Entry{Kind: kind, Producer: producer, Txn: txn})
}

func (m *model) isOpen(producer, txn int) bool {
	return slices.Contains(m.opens, [2]int{producer, txn}) &&
		!m.ended(producer, txn, api.ECommit) && !m.ended(producer, txn, api.EAbort)
}

func (m *model) open(producer, txn int) bool {
	for _, o := range m.opens {
		if o[0] == producer && (m.isOpen(producer, o[1]) || o[1] >= txn) {
			return false
		}
	}
	m.opens = append(m.opens, [2]int{producer, txn})
	return true
}

func (m *model) append(producer, txn int, text string) api.Errno {
	n := 0
	for _, e := range m.entries {
		if e.Kind == api.EData {
			n++
		}
	}
	if !m.isOpen(producer, txn) {
		return api.ErrNot
	}
	if len(text) > 8 {
		return api.ErrText
	}
	if n == 200 {
		return api.ErrFull
	}
	m.entries = append(m.entries, data(producer, txn, text))
	return api.OK
}

func (m *model) close(producer, txn int, commits bool) bool {
	if !m.isOpen(producer, txn) {
		return false
	}
	if commits {
		m.entries = append(m.entries, commit(producer, txn))
	} else {
		m.entries = append(m.entries, abort(producer, txn))
	}
	return true
}

func (m *model) stable() int {
	for i, e := range m.entries {
		if e.Kind == api.EData && m.isOpen(e.Producer, e.Txn) {
			return i
		}
	}
	return len(m.entries)
}

func (m *model) opened() []int {
	var x []int
	for _, o := range m.opens {
		if m.isOpen(o[0], o[1]) {
			x = append(x, o[0])
		}
	}
	slices.Sort(x)
	return x
}

func (m *model) fetch(from, most int) []api.Record {
	var x []api.Record
	for i, e := range m.entries[:m.stable()] {
		if i >= from && e.Kind == api.EData && m.ended(e.Producer, e.Txn, api.ECommit) {
			x = append(x, record(i, e.Producer, e.Text))
		}
	}
	return x[:min(max(most, 0), len(x))]
}

// drawNumber: mostly a small one, so that calls meet, at times one at the edge.
func drawNumber(r *rand.Rand, below int) int {
	if r.Intn(12) == 0 {
		edges := []int{math.MinInt, math.MinInt + 1, -1, math.MaxInt - 1, math.MaxInt}
		return edges[r.Intn(len(edges))]
	}
	return r.Intn(below)
}

// drawTxn: often the open transaction of the producer, or the one behind its last.
func drawTxn(r *rand.Rand, m *model, producer int) int {
	if r.Intn(4) == 0 {
		return drawNumber(r, 9)
	}
	txn := 0
	for _, o := range m.opens {
		if o[0] == producer {
			txn = o[1]
			if !m.isOpen(producer, txn) && txn < math.MaxInt {
				txn++
			}
		}
	}
	return txn
}

// step makes one call of both, and holds their answers against each other.
func step(t *testing.T, r *rand.Rand, l *part.Log, m *model) {
	t.Helper()
	producer := drawNumber(r, 4)
	txn := drawTxn(r, m, producer)
	switch n := r.Intn(10); {
	case n < 3:
		wantOpen(t, l, producer, txn, m.open(producer, txn))
	case n < 8:
		text := strings.Repeat(string([]byte{byte(r.Intn(256))}), r.Intn(10))
		wantAppend(t, l, producer, txn, text, m.append(producer, txn, text))
	default:
		commits := r.Intn(2) == 0
		wantClose(t, l, producer, txn, commits, m.close(producer, txn, commits))
	}
	from, most := drawNumber(r, len(m.entries)+2), drawNumber(r, 6)
	wantFetch(t, l, from, most, m.fetch(from, most)...)
	wantTold(t, l, told{m.entries, m.stable(), m.opened(), m.fetch(0, math.MaxInt)})
}

func TestDrawnCallsAgainstTheModel(t *testing.T) { // P3, P4
	for seed := range 150 {
		r := rand.New(rand.NewSource(int64(seed)))
		l, m := part.New(), &model{}
		for range 100 {
			step(t, r, l, m)
		}
	}
}

func TestLongDrawnCallsAgainstTheModel(t *testing.T) { // P3, P4: up to a full log and on
	full := 0
	for seed := range 3 {
		r := rand.New(rand.NewSource(int64(seed)))
		l, m := part.New(), &model{}
		for range 1100 {
			step(t, r, l, m)
		}
		for _, producer := range m.opened() {
			txn := drawTxn(r, m, producer)
			if l.Append(producer, txn, "") == api.ErrFull {
				full++
			}
		}
	}
	if full == 0 {
		t.Fatal("no drawn log came to be full")
	}
}

func TestFetchedStays(t *testing.T) { // P4, as P15 leans on it
	for seed := range 100 {
		r := rand.New(rand.NewSource(int64(seed)))
		l, m := part.New(), &model{}
		before := tell(l)
		for range 80 {
			step(t, r, l, m)
			now := tell(l)
			n := len(before.fetched)
			if now.stable < before.stable || len(now.fetched) < n || !slices.Equal(now.fetched[:n], before.fetched) {
				t.Fatalf("the log told %#v, now %#v", before, now)
			}
			before = now
		}
	}
}
