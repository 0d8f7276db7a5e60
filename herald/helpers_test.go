package herald_test

import (
	"encoding/binary"
	"fmt"
	"hash/adler32"
	"math"
	"slices"
	"strings"
	"testing"

	"herald/api"
	"herald/herald"
)

// plain is the settings of the document's examples.
var plain = api.Config{Producers: 2, Parts: 2, Timeout: 5, Backoff: 4}

// none is numbers of which there is no producer and no part, whatever the settings.
var none = []int{math.MinInt, math.MinInt + 1, -1, api.MaxProducers, math.MaxInt - 1, math.MaxInt}

const long = "123456789"

// hand makes the calls of a herald, each with the answer that it must give.
type hand struct {
	*herald.Herald
	t *testing.T
	c api.Config
}

func fresh(t *testing.T, c api.Config) hand {
	t.Helper()
	h, e := herald.New(c)
	if h == nil || e != api.OK {
		t.Fatalf("New(%+v) = %v, %d", c, h, e)
	}
	return hand{h, t, c}
}

func (h hand) is(call string, got, want api.Errno) {
	h.t.Helper()
	if got != want {
		h.t.Fatalf("%s = %d, want %d", call, got, want)
	}
}

func (h hand) init(producer, epoch int, want api.Errno) {
	h.t.Helper()
	if n, e := h.Init(producer); n != epoch || e != want {
		h.t.Fatalf("Init(%d) = %d, %d, want %d, %d", producer, n, e, epoch, want)
	}
}

func (h hand) add(producer, epoch, part int, want api.Errno) {
	h.t.Helper()
	h.is(fmt.Sprintf("Add(%d, %d, %d)", producer, epoch, part), h.Add(producer, epoch, part), want)
}

func (h hand) produce(producer, epoch, part int, text string, want api.Errno) {
	h.t.Helper()
	h.is(fmt.Sprintf("Produce(%d, %d, %d, %q)", producer, epoch, part, text), h.Produce(producer, epoch, part, text), want)
}

func (h hand) end(producer, epoch int, commit bool, want api.Errno) {
	h.t.Helper()
	h.is(fmt.Sprintf("End(%d, %d, %v)", producer, epoch, commit), h.End(producer, epoch, commit), want)
}

func (h hand) out(part int, out bool, want api.Errno) {
	h.t.Helper()
	h.is(fmt.Sprintf("Out(%d, %v)", part, out), h.Out(part, out), want)
}

func (h hand) breaks(keep int, want api.Errno) {
	h.t.Helper()
	h.is(fmt.Sprintf("Break(%d)", keep), h.Break(keep), want)
}

func (h hand) crash(want api.Errno) {
	h.t.Helper()
	h.is("Crash()", h.Crash(), want)
}

func (h hand) restart(want api.Errno) {
	h.t.Helper()
	h.is("Restart()", h.Restart(), want)
}

func (h hand) tick(want api.Errno) {
	h.t.Helper()
	h.is("Tick()", h.Tick(), want)
}

// ticks lets time go by, so many times.
func (h hand) ticks(n int) {
	h.t.Helper()
	for range n {
		h.tick(api.OK)
	}
}

func (h hand) deliver(k int, want api.Errno) {
	h.t.Helper()
	h.is(fmt.Sprintf("Deliver(%d)", k), h.Deliver(k), want)
}

func (h hand) drop(k int, want api.Errno) {
	h.t.Helper()
	h.is(fmt.Sprintf("Drop(%d)", k), h.Drop(k), want)
}

// dropAll loses all that is in flight; it tells how many these were.
func (h hand) dropAll() int {
	h.t.Helper()
	n := h.Flight()
	for range n {
		h.drop(0, api.OK)
	}
	h.flight()
	return n
}

func (h hand) copies(k int, want api.Errno) {
	h.t.Helper()
	h.is(fmt.Sprintf("Copy(%d)", k), h.Copy(k), want)
}

func (h hand) round(want int) {
	h.t.Helper()
	if n := h.Round(); n != want {
		h.t.Fatalf("Round() = %d, want %d", n, want)
	}
}

func (h hand) flight(want ...api.Message) {
	h.t.Helper()
	if got := messages(h); !slices.Equal(got, want) || h.Flight() != len(want) {
		h.t.Fatalf("in flight are %d, %+v, want %d, %+v", h.Flight(), got, len(want), want)
	}
}

func (h hand) producer(n int, want api.Producer) {
	h.t.Helper()
	got, e := h.Producer(n)
	if e != api.OK || got.Epoch != want.Epoch || got.Txn != want.Txn || got.Status != want.Status ||
		!slices.Equal(got.Parts, want.Parts) || !slices.Equal(got.Pending, want.Pending) {
		h.t.Fatalf("Producer(%d) = %+v, %d, want %+v", n, got, e, want)
	}
}

func (h hand) part(n int, want api.Part) {
	h.t.Helper()
	got, e := h.Part(n)
	if e != api.OK || got.Out != want.Out || got.End != want.End || got.Stable != want.Stable || !slices.Equal(got.Open, want.Open) {
		h.t.Fatalf("Part(%d) = %+v, %d, want %+v", n, got, e, want)
	}
}

func (h hand) entries(n int, want ...api.Entry) {
	h.t.Helper()
	if got, e := h.Entries(n); e != api.OK || !slices.Equal(got, want) {
		h.t.Fatalf("Entries(%d) = %#v, %d, want %#v", n, got, e, want)
	}
}

func (h hand) fetch(n, from, most int, want ...api.Record) {
	h.t.Helper()
	if got, e := h.Fetch(n, from, most); e != api.OK || !slices.Equal(got, want) {
		h.t.Fatalf("Fetch(%d, %d, %d) = %#v, %d, want %#v", n, from, most, got, e, want)
	}
}

func (h hand) journal(want ...string) {
	h.t.Helper()
	if got := h.Journal(); got != strings.Join(want, "") {
		h.t.Fatalf("Journal = %q, want %q", got, want)
	}
}

// stays tells all of the herald again, which must not have changed.
func (h hand) stays(before string) {
	h.t.Helper()
	if now := tell(h, h.c); now != before {
		h.t.Fatalf("something has changed:\n%s\nit was:\n%s", now, before)
	}
}

// teller is what tells and changes nothing.
type teller interface {
	Producer(int) (api.Producer, api.Errno)
	Part(int) (api.Part, api.Errno)
	Entries(int) ([]api.Entry, api.Errno)
	Fetch(int, int, int) ([]api.Record, api.Errno)
	Flight() int
	Message(int) (api.Message, api.Errno)
	Journal() string
}

// messages is all that are in flight, asked for one by one until there is none.
func messages(h teller) []api.Message {
	var all []api.Message
	for {
		m, e := h.Message(len(all))
		if e != api.OK {
			return all
		}
		all = append(all, m)
	}
}

// tell is all that is told, as a text.
func tell(h teller, c api.Config) string {
	var b strings.Builder
	for n := range c.Producers {
		p, e := h.Producer(n)
		fmt.Fprintf(&b, "producer %d: %d, %+v\n", n, e, p)
	}
	for n := range c.Parts {
		p, e := h.Part(n)
		fmt.Fprintf(&b, "part %d: %d, %+v\n", n, e, p)
		entries, e := h.Entries(n)
		for i, x := range entries {
			fmt.Fprintf(&b, "  entry %d: %d, %d %d %d %q\n", i, e, x.Kind, x.Producer, x.Txn, x.Text)
		}
		records, e := h.Fetch(n, math.MinInt, math.MaxInt)
		for _, x := range records {
			fmt.Fprintf(&b, "  fetched: %d, %d %d %q\n", e, x.Offset, x.Producer, x.Text)
		}
	}
	fmt.Fprintf(&b, "%d in flight: %+v\njournal %x\n", h.Flight(), messages(h), h.Journal())
	return b.String()
}

// record is the bytes of one of the journal, by the library's own means.
func record(kind, producer, detail, number int) string {
	b := []byte{byte(kind), byte(producer), byte(detail), 0}
	b = binary.BigEndian.AppendUint64(b, uint64(number))
	return string(binary.BigEndian.AppendUint32(b, adler32.Checksum(b)))
}

func data(producer, txn int, text string) api.Entry {
	return api.Entry{Kind: api.EData, Producer: producer, Txn: txn, Text: text}
}

// closed is the entry of a transaction's end.
func closed(producer, txn int, commit bool) api.Entry {
	kind := api.EAbort
	if commit {
		kind = api.ECommit
	}
	return api.Entry{Kind: kind, Producer: producer, Txn: txn}
}

func marker(part, producer, txn int, commit bool) api.Message {
	return api.Message{Kind: api.MMarker, Part: part, Producer: producer, Txn: txn, Commit: commit}
}

func ack(part, producer, txn int, commit bool) api.Message {
	return api.Message{Kind: api.MAck, Part: part, Producer: producer, Txn: txn, Commit: commit}
}

func idle(epoch, txn int) api.Producer {
	return api.Producer{Epoch: epoch, Txn: txn, Status: api.Idle}
}

func ongoing(epoch, txn int, parts ...int) api.Producer {
	return api.Producer{Epoch: epoch, Txn: txn, Status: api.Ongoing, Parts: parts}
}

// ending is a producer of whose parts none has acknowledged.
func ending(epoch, txn int, commit bool, parts ...int) api.Producer {
	status := api.Aborting
	if commit {
		status = api.Committing
	}
	return api.Producer{Epoch: epoch, Txn: txn, Status: status, Parts: parts, Pending: parts}
}

// waiting is one some of whose parts have acknowledged.
func waiting(epoch, txn int, commit bool, parts, pending []int) api.Producer {
	p := ending(epoch, txn, commit, parts...)
	p.Pending = pending
	return p
}
