package herald

import (
	"testing"

	"herald/api"
	"herald/journal"
)

// steps is records of two transactions of one producer and one of another, with what the producers are at behind each.
func steps() []struct {
	record journal.Record
	want   [2]producer
} {
	one := producer{epoch: 1}
	return []struct {
		record journal.Record
		want   [2]producer
	}{
		{journal.Record{Kind: api.REpoch, Producer: 1, Number: 1}, [2]producer{{}, one}},
		{journal.Record{Kind: api.REpoch, Producer: 0, Number: 1}, [2]producer{{epoch: 1}, one}},
		{journal.Record{Kind: api.REpoch, Producer: 0, Number: 2}, [2]producer{{epoch: 2}, one}},
		{journal.Record{Kind: api.RAdd, Producer: 0, Detail: 2, Number: 1}, [2]producer{{epoch: 2, txn: 1, status: api.Ongoing, ties: [4]int{2: within}}, one}},
		{journal.Record{Kind: api.RAdd, Producer: 0, Detail: 0, Number: 1}, [2]producer{{epoch: 2, txn: 1, status: api.Ongoing, ties: [4]int{0: within, 2: within}}, one}},
		{journal.Record{Kind: api.REnd, Producer: 0, Detail: 1, Number: 1}, [2]producer{{epoch: 2, txn: 1, status: api.Committing, ties: [4]int{0: pending, 2: pending}, wait: 1, gap: 1}, one}},
		{journal.Record{Kind: api.RDone, Producer: 0, Number: 1}, [2]producer{{epoch: 2, txn: 1}, one}},
		{journal.Record{Kind: api.REpoch, Producer: 0, Number: 3}, [2]producer{{epoch: 3, txn: 1}, one}},
		{journal.Record{Kind: api.RAdd, Producer: 0, Detail: 3, Number: 2}, [2]producer{{epoch: 3, txn: 2, status: api.Ongoing, ties: [4]int{3: within}}, one}},
		{journal.Record{Kind: api.REnd, Producer: 0, Detail: 0, Number: 2}, [2]producer{{epoch: 3, txn: 2, status: api.Aborting, ties: [4]int{3: pending}, wait: 1, gap: 1}, one}},
		{journal.Record{Kind: api.RDone, Producer: 0, Number: 2}, [2]producer{{epoch: 3, txn: 2}, one}},
	}
}

func (k *keeper) first2() [2]producer { return [2]producer(k.producers[:2]) }

func TestWritingDoes(t *testing.T) { // P11
	k := keeper{up: true}
	for _, s := range steps() {
		if !k.write(s.record) || !k.up {
			t.Fatalf("%+v is not written", s.record)
		}
		if got := k.first2(); got != s.want {
			t.Errorf("behind %+v: %+v, want %+v", s.record, got, s.want)
		}
	}
}

func TestRisingDoesAgain(t *testing.T) { // P12: of each kind of record, also of the one that ends a transaction
	k := keeper{}
	for _, s := range steps() {
		k.journal = append(k.journal, journal.Bytes(s.record)...)
		k.rise()
		if got := k.first2(); !k.up || got != s.want {
			t.Errorf("risen behind %+v: %+v, want %+v", s.record, got, s.want)
		}
		k.fall()
	}
}

func TestFallingLeavesTheJournalAlone(t *testing.T) { // P12
	k := keeper{up: true}
	for _, s := range steps()[:6] {
		k.write(s.record)
	}
	k.breaks, k.keep = true, 3
	k.fall()
	if k.up || k.breaks || k.keep != 0 || k.producers != [api.MaxProducers]producer{} || len(k.journal) != 6*journal.Size {
		t.Errorf("a fallen keeper is %+v", k)
	}
}

func TestAddBeginsTheNextTransaction(t *testing.T) { // P7: behind one that has come to its end
	k := keeper{up: true}
	for _, s := range steps() {
		k.write(s.record)
	}
	if !k.add(0, 1) || !k.add(0, 3) {
		t.Fatal("add broke")
	}
	if got, want := k.producers[0], (producer{epoch: 3, txn: 3, status: api.Ongoing, ties: [4]int{1: within, 3: within}}); got != want {
		t.Errorf("%+v, want %+v", got, want)
	}
}

func TestTied(t *testing.T) { // P14: of an end that some parts have acknowledged
	p := producer{status: api.Committing, ties: [4]int{pending, apart, within, pending}}
	if got := p.tied(within); len(got) != 3 || got[0] != 0 || got[1] != 2 || got[2] != 3 {
		t.Errorf("the parts are %v", got)
	}
	if got := p.tied(pending); len(got) != 2 || got[0] != 0 || got[1] != 3 {
		t.Errorf("pending are %v", got)
	}
}
