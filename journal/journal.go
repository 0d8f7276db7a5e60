// Package journal: the records of a keeper's journal, as the bytes that are written and back: see DOC.md.
package journal

// Size is how many bytes a record has.
const Size = 16

// summed is how many of them stand ahead of their check sum.
const summed = 12

// Record: Detail is the part (of api.RAdd), or 1 (of api.REnd, a commit), or 0; Number is the epoch (of api.REpoch), or the transaction's number.
type Record struct {
	Kind, Producer, Detail, Number int
}

// Bytes tells a record as it is written (P11).
func Bytes(r Record) []byte {
	b := []byte{byte(r.Kind), byte(r.Producer), byte(r.Detail), 0}
	b = put(b, uint64(r.Number), 8)
	return put(b, uint64(sum(b)), 4)
}

// Whole tells the records that a journal begins with, up to the first one that was not written whole (P12).
func Whole(b []byte) []Record {
	var records []Record
	for isWhole(b) {
		records = append(records, Record{int(b[0]), int(b[1]), int(b[2]), int(number(b[4:summed]))})
		b = b[Size:]
	}
	return records
}

func isWhole(b []byte) bool {
	return len(b) >= Size && number(b[summed:Size]) == uint64(sum(b[:summed]))
}

// put writes a number of so many bytes behind b, the highest byte first.
func put(b []byte, n uint64, size int) []byte {
	for i := range size {
		b = append(b, byte(n>>(8*(size-1-i))))
	}
	return b
}

func number(b []byte) uint64 {
	var n uint64
	for _, x := range b {
		n = n<<8 | uint64(x)
	}
	return n
}

// sum is Adler-32.
func sum(bytes []byte) uint32 {
	const modulus = 65521
	var a, b uint32 = 1, 0
	for _, x := range bytes {
		a = (a + uint32(x)) % modulus
		b = (b + a) % modulus
	}
	return b*65536 + a
}
