package part_test

import (
	"math"
	"slices"
	"strings"
	"testing"

	"herald/api"
	"herald/part"
)

func data(producer, txn int, text string) api.Entry {
	return api.Entry{Kind: api.EData, Producer: producer, Txn: txn, Text: text}
}

func commit(producer, txn int) api.Entry {
	return api.Entry{Kind: api.ECommit, Producer: producer, Txn: txn}
}

func abort(producer, txn int) api.Entry {
	return api.Entry{Kind: api.EAbort, Producer: producer, Txn: txn}
}

func record(offset, producer int, text string) api.Record {
	return api.Record{Offset: offset, Producer: producer, Text: text}
}

func wantOpen(t *testing.T, l *part.Log, producer, txn int, want bool) {
	t.Helper()
	if got := l.Open(producer, txn); got != want {
		t.Fatalf("Open(%d, %d) = %v", producer, txn, got)
	}
}

func wantAppend(t *testing.T, l *part.Log, producer, txn int, text string, want api.Errno) {
	t.Helper()
	if got := l.Append(producer, txn, text); got != want {
		t.Fatalf("Append(%d, %d, %q) = %d, want %d", producer, txn, text, got, want)
	}
}

func wantClose(t *testing.T, l *part.Log, producer, txn int, commit, want bool) {
	t.Helper()
	if got := l.Close(producer, txn, commit); got != want {
		t.Fatalf("Close(%d, %d, %v) = %v", producer, txn, commit, got)
	}
}

func wantFetch(t *testing.T, l *part.Log, from, most int, want ...api.Record) {
	t.Helper()
	if got := l.Fetch(from, most); !slices.Equal(got, want) {
		t.Fatalf("Fetch(%d, %d) = %#v, want %#v", from, most, got, want)
	}
}

// told is all that a log tells of itself.
type told struct {
	entries []api.Entry
	stable  int
	opened  []int
	fetched []api.Record
}

func tell(l *part.Log) told {
	return told{l.Entries(), l.Stable(), l.Opened(), l.Fetch(math.MinInt, math.MaxInt)}
}

func (a told) equal(b told) bool {
	return slices.Equal(a.entries, b.entries) && a.stable == b.stable &&
		slices.Equal(a.opened, b.opened) && slices.Equal(a.fetched, b.fetched)
}

func wantTold(t *testing.T, l *part.Log, want told) {
	t.Helper()
	if got := tell(l); !got.equal(want) {
		t.Fatalf("the log tells %#v, want %#v", got, want)
	}
}

// mixed is a log with a committed, an aborted and an open transaction.
func mixed(t *testing.T) *part.Log {
	t.Helper()
	l := part.New()
	wantOpen(t, l, 1, 1, true)
	wantOpen(t, l, 2, 1, true)
	wantAppend(t, l, 1, 1, "a", api.OK)
	wantAppend(t, l, 2, 1, "b", api.OK)
	wantAppend(t, l, 1, 1, "c", api.OK)
	wantClose(t, l, 1, 1, true, true)
	wantClose(t, l, 2, 1, false, true)
	wantOpen(t, l, 3, 1, true)
	wantAppend(t, l, 3, 1, "d", api.OK)
	wantOpen(t, l, 1, 2, true)
	return l
}

func mixedTold() told {
	return told{
		entries: []api.Entry{data(1, 1, "a"), data(2, 1, "b"), data(1, 1, "c"), commit(1, 1), abort(2, 1), data(3, 1, "d")},
		stable:  5,
		opened:  []int{1, 3},
		fetched: []api.Record{record(0, 1, "a"), record(2, 1, "c")},
	}
}

func TestNewLogIsEmpty(t *testing.T) { // P3
	l := part.New()
	wantTold(t, l, told{})
	wantAppend(t, l, 0, 0, "", api.ErrNot)
	wantClose(t, l, 0, 0, true, false)
	wantClose(t, l, 0, 0, false, false)
	wantTold(t, l, told{})
}

func TestOpen(t *testing.T) { // P3
	l := part.New()
	wantOpen(t, l, 4, 7, true)
	for _, txn := range []int{math.MinInt, -1, 0, 6, 7, 8, math.MaxInt} {
		wantOpen(t, l, 4, txn, false)
	}
	wantOpen(t, l, 5, 7, true)
	wantTold(t, l, told{opened: []int{4, 5}})
	wantClose(t, l, 4, 7, false, true)
	for _, txn := range []int{math.MinInt, -1, 0, 6, 7} {
		wantOpen(t, l, 4, txn, false)
	}
	// A number that was refused was never open: it may be taken still.
	wantOpen(t, l, 4, 8, true)
	wantTold(t, l, told{entries: []api.Entry{abort(4, 7)}, stable: 1, opened: []int{4, 5}})
}

func TestOpenBelowAnOlderTransaction(t *testing.T) { // P3: the highest of all counts
	l := part.New()
	for _, txn := range []int{-3, 0, 9} {
		wantOpen(t, l, 0, txn, true)
		wantClose(t, l, 0, txn, true, true)
	}
	for _, txn := range []int{-4, -3, -2, 0, 1, 8, 9} {
		wantOpen(t, l, 0, txn, false)
	}
	wantOpen(t, l, 0, 10, true)
}

func TestAnyNumbers(t *testing.T) { // P1, P3, P4
	numbers := []int{math.MinInt, math.MinInt + 1, -1, 0, 1, math.MaxInt - 1, math.MaxInt}
	l := part.New()
	var entries []api.Entry
	var fetched []api.Record
	for _, txn := range numbers {
		for _, producer := range slices.Backward(numbers) {
			wantOpen(t, l, producer, txn, true)
		}
		if got := l.Opened(); !slices.Equal(got, numbers) {
			t.Fatalf("Opened = %v, want %v", got, numbers)
		}
		for _, producer := range numbers {
			wantAppend(t, l, producer, txn, "x", api.OK)
			wantClose(t, l, producer, txn, true, true)
			fetched = append(fetched, record(len(entries), producer, "x"))
			entries = append(entries, data(producer, txn, "x"), commit(producer, txn))
		}
		wantTold(t, l, told{entries, len(entries), nil, fetched})
	}
	for _, txn := range numbers {
		for _, producer := range numbers {
			wantOpen(t, l, producer, txn, false)
		}
	}
}

func TestAppendText(t *testing.T) { // P3: bytes are counted, whatever they are
	for _, c := range []struct {
		text string
		want api.Errno
	}{
		{"", api.OK},
		{"x", api.OK},
		{strings.Repeat("x", api.MaxText), api.OK},
		{strings.Repeat("x", api.MaxText+1), api.ErrText},
		{strings.Repeat("x", 1<<20), api.ErrText},
		{"éééé", api.OK},
		{"ééééx", api.ErrText},
		{"\x00\xff\xfe\n\x80\x00\xc3\x28", api.OK},
		{strings.Repeat("\x00", api.MaxText+1), api.ErrText},
	} {
		l := part.New()
		wantOpen(t, l, 0, 1, true)
		wantAppend(t, l, 0, 1, c.text, c.want)
		want := told{opened: []int{0}}
		if c.want == api.OK {
			want.entries = []api.Entry{data(0, 1, c.text)}
		}
		wantTold(t, l, want)
	}
}

func TestAppendNot(t *testing.T) { // P3
	l := mixed(t)
	for _, c := range []struct{ producer, txn int }{
		{0, 0}, {0, 1}, {1, 1}, {1, 3}, {2, 1}, {2, 2}, {3, 0}, {3, 2}, {-1, 1}, {math.MinInt, math.MaxInt},
	} {
		wantAppend(t, l, c.producer, c.txn, "x", api.ErrNot)
		wantTold(t, l, mixedTold())
	}
}

func TestAppendFull(t *testing.T) { // P3: data entries of all are counted, ends are not
	l := part.New()
	wantOpen(t, l, 0, 1, true)
	for txn := range api.MaxLog - 1 {
		wantOpen(t, l, 1, txn, true)
		wantAppend(t, l, 1, txn, "x", api.OK)
		wantClose(t, l, 1, txn, txn%2 == 0, true)
	}
	wantAppend(t, l, 0, 1, "last", api.OK)
	wantAppend(t, l, 0, 1, "", api.ErrFull)
	wantOpen(t, l, 1, api.MaxLog, true)
	wantAppend(t, l, 1, api.MaxLog, "x", api.ErrFull)
	before := tell(l)
	if n := len(before.entries); n != 2*api.MaxLog-1 {
		t.Fatalf("%d entries", n)
	}
	wantAppend(t, l, 0, 1, "", api.ErrFull)
	wantTold(t, l, before)
	wantClose(t, l, 0, 1, true, true)
	wantClose(t, l, 1, api.MaxLog, false, true)
	want := append(before.entries, commit(0, 1), abort(1, api.MaxLog))
	if got := l.Entries(); !slices.Equal(got, want) || l.Stable() != len(want) {
		t.Fatalf("a full log does not close: stable to %d, %v", l.Stable(), got)
	}
}

func TestAppendNamesTheFirstError(t *testing.T) { // P1, P3
	long := strings.Repeat("x", api.MaxText+1)
	l := part.New()
	wantAppend(t, l, 0, 1, long, api.ErrNot)
	wantOpen(t, l, 0, 1, true)
	for range api.MaxLog {
		wantAppend(t, l, 0, 1, "x", api.OK)
	}
	wantAppend(t, l, 0, 2, long, api.ErrNot)
	wantAppend(t, l, 0, 2, "x", api.ErrNot)
	wantAppend(t, l, 0, 1, long, api.ErrText)
	wantAppend(t, l, 0, 1, "x", api.ErrFull)
}

func TestClose(t *testing.T) { // P3
	for _, commits := range []bool{true, false} {
		l := mixed(t)
		for _, c := range []struct{ producer, txn int }{
			{0, 0}, {0, 1}, {1, 1}, {1, 3}, {2, 1}, {3, 0}, {3, 2}, {-3, 1},
		} {
			wantClose(t, l, c.producer, c.txn, commits, false)
			wantTold(t, l, mixedTold())
		}
		wantClose(t, l, 3, 1, commits, true)
		want := mixedTold()
		want.entries = append(want.entries, abort(3, 1))
		if commits {
			want.entries[6] = commit(3, 1)
			want.fetched = append(want.fetched, record(5, 3, "d"))
		}
		want.stable, want.opened = 7, []int{1}
		wantTold(t, l, want)
		wantClose(t, l, 3, 1, !commits, false)
		wantAppend(t, l, 3, 1, "x", api.ErrNot)
		wantTold(t, l, want)
	}
}

func TestCloseWithoutData(t *testing.T) { // P3: the end is told all the same
	l := part.New()
	wantOpen(t, l, 0, 1, true)
	wantClose(t, l, 0, 1, true, true)
	wantOpen(t, l, 0, 2, true)
	wantClose(t, l, 0, 2, false, true)
	wantTold(t, l, told{entries: []api.Entry{commit(0, 1), abort(0, 2)}, stable: 2})
}

func TestStable(t *testing.T) { // P4
	l := part.New()
	want := func(stable int) {
		t.Helper()
		if got := l.Stable(); got != stable {
			t.Fatalf("Stable = %d, want %d", got, stable)
		}
	}
	want(0)
	wantOpen(t, l, 0, 1, true)
	wantOpen(t, l, 1, 1, true)
	wantOpen(t, l, 2, 1, true)
	want(0)
	wantClose(t, l, 2, 1, true, true)
	want(1) // what is open has no data entry yet
	wantAppend(t, l, 1, 1, "a", api.OK)
	want(1)
	wantAppend(t, l, 0, 1, "b", api.OK)
	wantAppend(t, l, 1, 1, "c", api.OK)
	want(1)
	wantClose(t, l, 1, 1, false, true)
	want(2) // an aborted one holds nothing back
	wantOpen(t, l, 1, 2, true)
	wantAppend(t, l, 1, 2, "d", api.OK)
	want(2)
	wantClose(t, l, 0, 1, true, true)
	want(5) // the older entries of producer 1 are not of its open transaction
	wantClose(t, l, 1, 2, true, true)
	want(8)
}

func TestFetchIsNeverAheadOfStable(t *testing.T) { // P4
	l := part.New()
	wantOpen(t, l, 0, 1, true)
	wantOpen(t, l, 1, 1, true)
	wantAppend(t, l, 1, 1, "a", api.OK)
	wantAppend(t, l, 0, 1, "b", api.OK)
	wantAppend(t, l, 1, 1, "c", api.OK)
	wantClose(t, l, 1, 1, true, true)
	wantFetch(t, l, 0, 9, record(0, 1, "a"))
	wantFetch(t, l, 1, 9)
	wantFetch(t, l, 2, 9)
	wantClose(t, l, 0, 1, false, true)
	wantFetch(t, l, 0, 9, record(0, 1, "a"), record(2, 1, "c"))
	wantFetch(t, l, 1, 9, record(2, 1, "c"))
}

func TestFetchBounds(t *testing.T) { // P1, P4
	l := part.New()
	for txn, text := range []string{"a", "b", "", "d"} {
		wantOpen(t, l, 8, txn, true)
		wantAppend(t, l, 8, txn, text, api.OK)
		wantClose(t, l, 8, txn, txn != 1, true)
	}
	a, c, d := record(0, 8, "a"), record(4, 8, ""), record(6, 8, "d")
	for _, from := range []int{math.MinInt, -1, 0} {
		wantFetch(t, l, from, math.MaxInt, a, c, d)
		wantFetch(t, l, from, 4, a, c, d)
		wantFetch(t, l, from, 3, a, c, d)
		wantFetch(t, l, from, 2, a, c)
		wantFetch(t, l, from, 1, a)
	}
	for _, from := range []int{1, 2, 3, 4} {
		wantFetch(t, l, from, 9, c, d)
		wantFetch(t, l, from, 1, c)
	}
	wantFetch(t, l, 5, 9, d)
	wantFetch(t, l, 6, 9, d)
	for _, from := range []int{7, 8, 9, math.MaxInt} {
		wantFetch(t, l, from, math.MaxInt)
	}
	for _, from := range []int{math.MinInt, -1, 0, 4, 8, math.MaxInt} {
		for _, most := range []int{math.MinInt, -1, 0} {
			wantFetch(t, l, from, most)
		}
	}
}

func TestFetchTellsTransactionsApart(t *testing.T) { // P4: same numbers, other producers; same producer, other numbers
	l := part.New()
	wantOpen(t, l, 1, 2, true)
	wantOpen(t, l, 2, 1, true)
	wantOpen(t, l, 3, 2, true)
	wantAppend(t, l, 1, 2, "a", api.OK)
	wantAppend(t, l, 2, 1, "b", api.OK)
	wantAppend(t, l, 3, 2, "c", api.OK)
	wantClose(t, l, 1, 2, false, true)
	wantClose(t, l, 2, 1, true, true)
	wantClose(t, l, 3, 2, false, true)
	wantOpen(t, l, 1, 3, true)
	wantAppend(t, l, 1, 3, "d", api.OK)
	wantClose(t, l, 1, 3, true, true)
	wantOpen(t, l, 2, 2, true)
	wantAppend(t, l, 2, 2, "e", api.OK)
	wantClose(t, l, 2, 2, false, true)
	wantFetch(t, l, 0, 99, record(1, 2, "b"), record(6, 1, "d"))
}

// scribble writes into all of a list, its spare room too.
func scribble[E any](list []E, with E) {
	for i := range list[:cap(list)] {
		list[:cap(list)][i] = with
	}
}

func TestListsAreNewMemory(t *testing.T) { // P2
	l := mixed(t)
	for range 70 { // past several growths of what the log keeps
		kept := tell(l)
		want := told{slices.Clone(kept.entries), kept.stable, slices.Clone(kept.opened), slices.Clone(kept.fetched)}
		spoilt := tell(l)
		scribble(spoilt.entries, data(9, 9, "spoilt"))
		scribble(spoilt.opened, 9)
		scribble(spoilt.fetched, record(9, 9, "spoilt"))
		wantTold(t, l, want)
		wantAppend(t, l, 1, 2, "next", api.OK)
		if n := len(want.entries); !slices.Equal(l.Entries(), append(want.entries[:n:n], data(1, 2, "next"))) {
			t.Fatalf("what a caller wrote into a list is in the log: %v", l.Entries())
		}
		scribble(tell(l).entries, data(9, 9, "spoilt"))
		if !kept.equal(want) {
			t.Fatalf("a list that came out has changed: %v, want %v", kept, want)
		}
	}
}

func TestLogsKnowNothingOfOneAnother(t *testing.T) { // P2
	a, b := part.New(), part.New()
	wantOpen(t, a, 0, 5, true)
	wantTold(t, b, told{})
	wantAppend(t, b, 0, 5, "x", api.ErrNot)
	wantClose(t, b, 0, 5, true, false)
	wantOpen(t, b, 0, 1, true)
	for range api.MaxLog {
		wantAppend(t, b, 0, 1, "b", api.OK)
	}
	wantAppend(t, a, 0, 5, "a", api.OK)
	wantClose(t, b, 0, 1, false, true)
	wantTold(t, a, told{entries: []api.Entry{data(0, 5, "a")}, opened: []int{0}})
	wantClose(t, a, 0, 5, true, true)
	wantTold(t, a, told{[]api.Entry{data(0, 5, "a"), commit(0, 5)}, 2, nil, []api.Record{record(0, 0, "a")}})
}
