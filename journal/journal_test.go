package journal_test

import (
	"encoding/binary"
	"hash/adler32"
	"math"
	"slices"
	"testing"

	"herald/api"
	"herald/journal"
)

// bytesOf is a record as P11 has it, by the library's own means.
func bytesOf(r journal.Record) []byte {
	b := []byte{byte(r.Kind), byte(r.Producer), byte(r.Detail), 0}
	b = binary.BigEndian.AppendUint64(b, uint64(r.Number))
	return binary.BigEndian.AppendUint32(b, adler32.Checksum(b))
}

// several is one record of each kind, with numbers that fill one byte and more.
func several() []journal.Record {
	return []journal.Record{
		{Kind: api.REpoch, Producer: 5, Number: 255},
		{Kind: api.RAdd, Producer: 1, Detail: 3, Number: 256},
		{Kind: api.REnd, Producer: 2, Detail: 1, Number: 0x0102030405060708},
		{Kind: api.REnd, Producer: 2, Number: 1 << 32},
		{Kind: api.RDone, Producer: 4, Number: math.MaxInt},
	}
}

func all(records []journal.Record) []byte {
	var b []byte
	for _, r := range records {
		b = append(b, journal.Bytes(r)...)
	}
	return b
}

func TestBytesOfTheDocumentsExample(t *testing.T) { // P11, example 5, sums worked out by hand
	for _, c := range []struct {
		record journal.Record
		want   []byte
	}{
		// a goes 1, 2 2 2 .., 3; b is 2 * 11 + 3 = 25
		{journal.Record{Kind: api.REpoch, Number: 1}, []byte{1, 0, 0, 0, 0, 0, 0, 0, 0, 0, 0, 1, 0, 25, 0, 3}},
		// 3 * 11 + 4 = 37
		{journal.Record{Kind: api.RAdd, Number: 1}, []byte{2, 0, 0, 0, 0, 0, 0, 0, 0, 0, 0, 1, 0, 37, 0, 4}},
		// 4 * 2 + 5 * 9 + 6 = 59
		{journal.Record{Kind: api.REnd, Detail: 1, Number: 1}, []byte{3, 0, 1, 0, 0, 0, 0, 0, 0, 0, 0, 1, 0, 59, 0, 6}},
		// 5 * 11 + 6 = 61
		{journal.Record{Kind: api.RDone, Number: 1}, []byte{4, 0, 0, 0, 0, 0, 0, 0, 0, 0, 0, 1, 0, 61, 0, 6}},
	} {
		if got := journal.Bytes(c.record); !slices.Equal(got, c.want) {
			t.Errorf("Bytes(%+v) = %v, want %v", c.record, got, c.want)
		}
	}
}

func TestBytes(t *testing.T) { // P11
	for _, r := range several() {
		if got, want := journal.Bytes(r), bytesOf(r); !slices.Equal(got, want) || len(got) != journal.Size {
			t.Errorf("Bytes(%+v) = %v, want %v", r, got, want)
		}
	}
}

func TestBytesAreNewMemory(t *testing.T) {
	r := several()[2]
	spoilt := journal.Bytes(r)
	clear(spoilt[:cap(spoilt)])
	if got := journal.Bytes(r); !slices.Equal(got, bytesOf(r)) {
		t.Errorf("Bytes(%+v) = %v behind a writing into the first answer", r, got)
	}
}

func TestWholeTellsAllThatWasWritten(t *testing.T) { // P12
	for n := range len(several()) + 1 {
		want := several()[:n]
		if got := journal.Whole(all(want)); !slices.Equal(got, want) {
			t.Errorf("Whole = %+v, want %+v", got, want)
		}
	}
}

func TestWholeLeavesATornRecord(t *testing.T) { // P12
	b := all(several())
	for n := range len(b) + 1 {
		want := several()[:n/journal.Size]
		if got := journal.Whole(b[:n:n]); !slices.Equal(got, want) {
			t.Errorf("Whole of %d bytes = %+v, want %+v", n, got, want)
		}
	}
}

func TestWholeLeavesAWrongSum(t *testing.T) { // P11: that is what the sum is for
	for place := range journal.Size {
		for bit := range 8 {
			b := all(several())
			b[2*journal.Size+place] ^= 1 << bit
			if got := journal.Whole(b); !slices.Equal(got, several()[:2]) {
				t.Errorf("byte %d, bit %d: Whole = %+v", place, bit, got)
			}
		}
	}
}

func TestWholeChangesNothing(t *testing.T) {
	b := append(all(several()), 1, 2, 3)
	before := slices.Clone(b)
	journal.Whole(b)
	if !slices.Equal(b, before) {
		t.Errorf("Whole has written into the journal")
	}
}
