package herald

import (
	"slices"

	"herald/api"
	"herald/journal"
)

// What a part has to do with the transaction of a producer; each one says what those ahead of it say, and more.
const (
	apart   = iota
	within  // the transaction has it
	pending // and it has not acknowledged the end
)

// producer is what the keeper knows of one. The zero value is one that is Idle and never had an epoch.
type producer struct {
	epoch, txn, status int
	ties               [api.MaxParts]int
	silent             int // for so many ticks, if it is Ongoing
	// In how many ticks its next markers are due, and how many later those behind them are. One pair is enough for all pending parts, since they became pending together.
	wait, gap int
}

func (p *producer) isEnding() bool {
	return p.status == api.Committing || p.status == api.Aborting
}

// tied tells the parts, by rising numbers, whose tie to the transaction is at least this one.
func (p *producer) tied(least int) []int {
	var parts []int
	for part, tie := range p.ties {
		if tie >= least {
			parts = append(parts, part)
		}
	}
	return parts
}

// keeper decides of transactions. Of all that it knows only the journal outlives a crash.
type keeper struct {
	journal   []byte
	up        bool
	producers [api.MaxProducers]producer
	breaks    bool // in writing the next record, of which it keeps so many bytes
	keep      int
}

// fall takes the keeper down.
func (k *keeper) fall() { *k = keeper{journal: k.journal} }

// rise takes up a keeper that has its journal alone.
func (k *keeper) rise() {
	records := journal.Whole(k.journal)
	k.journal = k.journal[:len(records)*journal.Size]
	deeds := k.deeds()
	for _, r := range records {
		deeds[r.Kind](r)
	}
	k.up = true
}

// write puts a record into the journal and does what it says; false, if the keeper breaks in the writing.
func (k *keeper) write(r journal.Record) bool {
	bytes := journal.Bytes(r)
	if k.breaks {
		k.journal = append(k.journal, bytes[:k.keep]...)
		k.fall()
		return false
	}
	k.journal = append(k.journal, bytes...)
	k.deeds()[r.Kind](r)
	return true
}

// deeds has for each kind of record what it does. Behind the writing and at a restart it is the same, so that the two can't come to differ.
func (k *keeper) deeds() [api.RDone + 1]func(journal.Record) {
	return [api.RDone + 1]func(journal.Record){
		api.REpoch: func(r journal.Record) {
			k.producers[r.Producer].epoch = r.Number
		},
		api.RAdd: func(r journal.Record) {
			p := &k.producers[r.Producer]
			p.status, p.txn = api.Ongoing, r.Number
			p.ties[r.Detail] = within
		},
		api.REnd: func(r journal.Record) {
			p := &k.producers[r.Producer]
			p.status = api.Aborting
			if r.Detail == 1 {
				p.status = api.Committing
			}
			for _, part := range p.tied(within) {
				p.ties[part] = pending
			}
			p.wait, p.gap = 1, 1
		},
		api.RDone: func(r journal.Record) {
			p := &k.producers[r.Producer]
			*p = producer{epoch: p.epoch, txn: p.txn, status: api.Idle}
		},
	}
}

// admit tells what bars a producer of this epoch from the keeper.
func (k *keeper) admit(producer int, epoch int) api.Errno {
	switch {
	case !k.up:
		return api.ErrDown
	case epoch == 0 || epoch != k.producers[producer].epoch:
		return api.ErrFenced
	}
	return api.OK
}

// raise gives a producer its next epoch.
func (k *keeper) raise(producer int) bool {
	epoch := k.producers[producer].epoch + 1
	return k.write(journal.Record{Kind: api.REpoch, Producer: producer, Number: epoch})
}

// add takes a part into the transaction of a producer, into the next one if it is Idle.
func (k *keeper) add(producer int, part int) bool {
	txn := k.producers[producer].txn
	if k.producers[producer].status == api.Idle {
		txn++
	}
	return k.write(journal.Record{Kind: api.RAdd, Producer: producer, Detail: part, Number: txn})
}

// end decides the transaction of a producer.
func (k *keeper) end(producer int, commit bool) bool {
	r := journal.Record{Kind: api.REnd, Producer: producer, Number: k.producers[producer].txn}
	if commit {
		r.Detail = 1
	}
	return k.write(r)
}

// looks is what the keeper does at a tick: for each producer, by rising numbers, a look at it; false, if the keeper breaks in that.
func (k *keeper) looks(c api.Config, send func(api.Message)) []func() bool {
	var looks []func() bool
	for n := range c.Producers {
		looks = append(looks, func() bool {
			p := &k.producers[n]
			switch {
			case p.status == api.Ongoing:
				p.silent++
				return p.silent < c.Timeout || k.end(n, false)
			case p.isEnding():
				k.remind(n, c.Backoff, send)
			}
			return true
		})
	}
	return looks
}

// remind sends a producer's markers to the pending parts, if they are due.
func (k *keeper) remind(producer int, backoff int, send func(api.Message)) {
	p := &k.producers[producer]
	p.wait--
	if p.wait > 0 {
		return
	}
	for _, part := range p.tied(pending) {
		send(api.Message{Kind: api.MMarker, Part: part, Producer: producer, Txn: p.txn, Commit: p.status == api.Committing})
	}
	p.wait, p.gap = p.gap, min(2*p.gap, backoff)
}

// receive lets an acknowledgement arrive.
func (k *keeper) receive(ack api.Message) {
	p := &k.producers[ack.Producer]
	if !k.up || !p.isEnding() || p.txn != ack.Txn {
		return
	}
	if slices.Equal(p.tied(pending), []int{ack.Part}) {
		k.write(journal.Record{Kind: api.RDone, Producer: ack.Producer, Number: p.txn})
		return
	}
	p.ties[ack.Part] = within
}
