// Package part: the log of one part: see DOC.md.
package part

import (
	"slices"

	"herald/api"
)

// Log is the log of a part.
type Log struct {
	entries []api.Entry
	data    int // counted apart, since commits and aborts have no bound
	newest  map[int]state
}

// state is what became of the newest transaction of a producer. The older ones need none: they are closed, and their numbers can't be opened again.
type state struct {
	txn  int
	open bool
}

// transaction names one among those of all producers, who number theirs each by themselves.
type transaction struct {
	producer, txn int
}

// New makes an empty log (P3).
func New() *Log { return &Log{newest: map[int]state{}} }

// Open opens a transaction of a producer (P3).
func (l *Log) Open(producer int, txn int) bool {
	newest, known := l.newest[producer]
	if known && (newest.open || newest.txn >= txn) {
		return false
	}
	l.newest[producer] = state{txn: txn, open: true}
	return true
}

// Append puts a data entry behind all others (P3).
func (l *Log) Append(producer int, txn int, text string) api.Errno {
	switch {
	case !l.isOpen(producer, txn):
		return api.ErrNot
	case len(text) > api.MaxText:
		return api.ErrText
	case l.data >= api.MaxLog:
		return api.ErrFull
	}
	l.put(api.Entry{Kind: api.EData, Producer: producer, Txn: txn, Text: text})
	l.data++
	return api.OK
}

// Close ends a transaction (P3).
func (l *Log) Close(producer int, txn int, commit bool) bool {
	if !l.isOpen(producer, txn) {
		return false
	}
	kind := api.EAbort
	if commit {
		kind = api.ECommit
	}
	l.put(api.Entry{Kind: kind, Producer: producer, Txn: txn})
	l.newest[producer] = state{txn: txn}
	return true
}

// Entries tells all entries (P4).
func (l *Log) Entries() []api.Entry { return slices.Clone(l.entries) }

// Stable tells up to where the log is stable (P4).
func (l *Log) Stable() int {
	for offset, e := range l.entries {
		if e.Kind == api.EData && l.isOpen(e.Producer, e.Txn) {
			return offset
		}
	}
	return len(l.entries)
}

// Opened tells whose transactions are open (P4).
func (l *Log) Opened() []int {
	var producers []int
	for producer, newest := range l.newest {
		if newest.open {
			producers = append(producers, producer)
		}
	}
	slices.Sort(producers)
	return producers
}

// Fetch tells what has been committed, from an offset on (P4).
func (l *Log) Fetch(from int, most int) []api.Record {
	ends, stable := l.ends(), l.Stable()
	var records []api.Record
	for offset := max(from, 0); offset < stable && len(records) < most; offset++ {
		e := l.entries[offset]
		if e.Kind == api.EData && ends[transaction{e.Producer, e.Txn}] == api.ECommit {
			records = append(records, api.Record{Offset: offset, Producer: e.Producer, Text: e.Text})
		}
	}
	return records
}

func (l *Log) isOpen(producer int, txn int) bool {
	return l.newest[producer] == state{txn: txn, open: true}
}

func (l *Log) put(e api.Entry) { l.entries = append(l.entries, e) }

// ends tells for each closed transaction by which kind of entry it was closed.
func (l *Log) ends() map[transaction]int {
	kinds := map[transaction]int{}
	for _, e := range l.entries {
		if e.Kind != api.EData {
			kinds[transaction{e.Producer, e.Txn}] = e.Kind
		}
	}
	return kinds
}
