package tape

import (
	"slices"

	"aneroid/api"
)

// malformed is what a reader panics with.
const malformed = "malformed tape"

// mostBytes is the greatest length of a number.
const mostBytes = 10

// reader takes numbers and bytes from the start of its bytes.
type reader struct {
	rest []byte
}

func (r *reader) one() byte {
	if len(r.rest) == 0 {
		panic(malformed)
	}
	b := r.rest[0]
	r.rest = r.rest[1:]
	return b
}

func (r *reader) number() int64 {
	var code uint64
	for i := range mostBytes {
		b := r.one()
		code |= uint64(b&0x7f) << (7 * i)
		if b < 0x80 {
			// A last byte of 0 says nothing; of the tenth only one bit fits.
			if b == 0 && i > 0 || b > 1 && i == mostBytes-1 {
				panic(malformed)
			}
			return int64(code>>1) ^ -int64(code&1)
		}
	}
	panic(malformed)
}

// rows takes a block up to its checksum.
func (r *reader) rows(width int) [][]int64 {
	if r.one() != start {
		panic(malformed)
	}
	count := int(r.one())
	if count < 1 || count > blockRows {
		panic(malformed)
	}
	var rows [][]int64
	previous := make([]int64, width)
	for range count {
		row := make([]int64, width)
		for i := range row {
			row[i] = previous[i] + r.number()
		}
		rows = append(rows, row)
		previous = row
	}
	return rows
}

// Take returns the number at the start of b, the bytes after it, and true; 0,
// nil and false if there is none.
func Take(b []byte) (n int64, rest []byte, ok bool) {
	defer func() {
		if recover() != nil {
			n, rest, ok = 0, nil, false
		}
	}()
	r := reader{rest: b}
	n = r.number()
	return n, slices.Clone(r.rest), true
}

// block returns the rows of the block at the start of b, and the bytes after
// it, which are those of b.
func block(width int, b []byte) (rows [][]int64, rest []byte, e api.Errno) {
	defer func() {
		if recover() != nil {
			rows, rest, e = nil, nil, api.ErrForm
		}
	}()
	r := reader{rest: b}
	rows = r.rows(width)
	sum := Sum(b[:len(b)-len(r.rest)])
	high, low := r.one(), r.one()
	if uint16(high)<<8|uint16(low) != sum {
		return nil, nil, api.ErrSum
	}
	return rows, r.rest, api.OK
}

// Read returns the rows of the block at the start of b, and the bytes after
// it.
func Read(width int, b []byte) (rows [][]int64, rest []byte, e api.Errno) {
	if !isWidth(width) {
		return nil, nil, api.ErrRange
	}
	rows, rest, e = block(width, b)
	return rows, slices.Clone(rest), e
}

// All returns the rows of all blocks of b; or the offset of the first block
// that Read rejects, and its error.
func All(width int, b []byte) (rows [][]int64, at int, e api.Errno) {
	if !isWidth(width) {
		return nil, 0, api.ErrRange
	}
	rest := b
	for len(rest) > 0 {
		more, after, e := block(width, rest)
		if e != api.OK {
			return nil, len(b) - len(rest), e
		}
		rows = append(rows, more...)
		rest = after
	}
	return rows, 0, api.OK
}
