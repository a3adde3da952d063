package tape

import (
	"bytes"
	"encoding/binary"
	"math"
	"math/rand"
	"reflect"
	"testing"

	"aneroid/api"
)

func draw(r *rand.Rand) int64 {
	if r.Intn(30) == 0 {
		return []int64{math.MinInt64, math.MaxInt64, math.MinInt64 + 1}[r.Intn(3)]
	}
	return int64(r.Uint64()) >> r.Intn(64)
}

func table(r *rand.Rand, width, n int) [][]int64 {
	var rows [][]int64
	for range n {
		var row []int64
		for range width {
			row = append(row, draw(r))
		}
		rows = append(rows, row)
	}
	return rows
}

// crc is the checksum, computed bit by bit by polynomial division.
func crc(b []byte) uint16 {
	reg := uint32(0xffff)
	for _, x := range b {
		for i := 7; i >= 0; i-- {
			bit := uint32(x)>>i&1 ^ reg>>15&1
			reg = reg << 1 & 0xffff
			if bit == 1 {
				reg ^= 0x1021
			}
		}
	}
	return uint16(reg)
}

// reference is a block, with the varints of the library.
func reference(width int, rows [][]int64) []byte {
	b := []byte{0x5a, byte(len(rows))}
	for i, row := range rows {
		for j, n := range row {
			if i > 0 {
				n -= rows[i-1][j]
			}
			b = binary.AppendVarint(b, n)
		}
	}
	return binary.BigEndian.AppendUint16(b, crc(b))
}

// Promise 45.1.
func TestNumber(t *testing.T) {
	r := rand.New(rand.NewSource(45))
	for i := range 3000 {
		n := draw(r)
		if i < 400 {
			n = int64(i - 200)
		}
		want := binary.AppendVarint([]byte{7, 8}, n)
		b := make([]byte, 2, 50)
		b[0], b[1] = 7, 8
		got := Number(b, n)
		if !bytes.Equal(got, want) || b[:3][2] != 0 {
			t.Fatalf("Number(%d) = %x, want %x", n, got, want)
		}
		got[0] = 99
		if b[0] != 7 {
			t.Fatal("Number shares memory with its argument")
		}
		tail := append(binary.AppendVarint(nil, n), 5, 6)
		m, rest, ok := Take(tail)
		if m != n || !bytes.Equal(rest, []byte{5, 6}) || !ok {
			t.Fatalf("Take(%x) = %d, %x, %v", tail, m, rest, ok)
		}
		rest[0] = 77
		if tail[len(tail)-2] != 5 {
			t.Fatal("Take shares memory with its argument")
		}
	}
	for _, x := range []struct {
		n    int64
		want []byte
	}{{1, []byte{2}}, {-1, []byte{1}}, {64, []byte{0x80, 1}}, {0, []byte{0}}} {
		if b := Number(nil, x.n); !bytes.Equal(b, x.want) {
			t.Errorf("Number(%d) = %x", x.n, b)
		}
	}
	full := bytes.Repeat([]byte{0xff}, 9)
	for _, b := range [][]byte{
		nil, {0x80}, {0xff, 0xff}, {0x80, 0}, {0x81, 0x80, 0}, append(bytes.Clone(full), 2), append(bytes.Clone(full), 0),
		append(bytes.Clone(full), 0x81), append(bytes.Clone(full), 0x80, 1), append(bytes.Clone(full), 0xff, 0), full,
	} {
		if n, rest, ok := Take(b); n != 0 || len(rest) != 0 || ok {
			t.Errorf("Take(%x) = %d, %x, %v", b, n, rest, ok)
		}
	}
	if n, rest, ok := Take(append(bytes.Clone(full), 1)); n != math.MinInt64 || len(rest) != 0 || !ok {
		t.Errorf("the longest number is %d, %v", n, ok)
	}
}

// Promise 45.1.
func TestSum(t *testing.T) {
	if Sum([]byte("123456789")) != 0x29b1 || Sum(nil) != 0xffff {
		t.Errorf("the check value is %x", Sum([]byte("123456789")))
	}
	r := rand.New(rand.NewSource(1))
	for range 500 {
		b := make([]byte, r.Intn(100))
		r.Read(b)
		if Sum(b) != crc(b) {
			t.Fatalf("Sum(%x) = %x, want %x", b, Sum(b), crc(b))
		}
	}
}

// Promises 45.2 and 45.4.
func TestBlock(t *testing.T) {
	r := rand.New(rand.NewSource(2))
	for width := 1; width <= 16; width++ {
		for _, n := range []int{1, 2, 7, 49, 50} {
			rows := table(r, width, n)
			b, e := Block(width, rows)
			if e != api.OK || !bytes.Equal(b, reference(width, rows)) {
				t.Fatalf("Block of %d rows returns %d", n, e)
			}
			got, rest, e := Read(width, append(bytes.Clone(b), 1, 2, 3))
			if e != api.OK || !reflect.DeepEqual(got, rows) || !bytes.Equal(rest, []byte{1, 2, 3}) {
				t.Fatalf("Read of %d rows returns %d", n, e)
			}
			for _, end := range []int{0, 1, 2, 3, len(b) - 2, len(b) - 1} {
				if got, rest, e := Read(width, b[:end]); len(got) != 0 || len(rest) != 0 || e != api.ErrForm {
					t.Fatalf("Read of the first %d bytes returns %d", end, e)
				}
			}
			for range 50 {
				changed := bytes.Clone(b)
				at := 2 + r.Intn(len(b)-2)
				changed[at] ^= byte(1 + r.Intn(255))
				if _, rest, e := Read(width, changed); e == api.OK && len(rest) == 0 {
					t.Fatalf("a changed byte %d is accepted", at)
				}
			}
			last := bytes.Clone(b)
			last[len(last)-1]++
			if got, rest, e := Read(width, last); len(got) != 0 || len(rest) != 0 || e != api.ErrSum {
				t.Fatalf("a wrong checksum returns %d", e)
			}
		}
	}
}

// Promise 45.2: the errors and their order.
func TestBlockErrors(t *testing.T) {
	r := rand.New(rand.NewSource(3))
	for _, width := range []int{0, -1, 17, math.MinInt, math.MaxInt} {
		if b, e := Block(width, nil); len(b) != 0 || e != api.ErrRange {
			t.Errorf("Block with width %d returns %d", width, e)
		}
		if rows, rest, e := Read(width, nil); len(rows) != 0 || len(rest) != 0 || e != api.ErrRange {
			t.Errorf("Read with width %d returns %d", width, e)
		}
		if b, e := Write(width, table(r, 1, 1001)); len(b) != 0 || e != api.ErrRange {
			t.Errorf("Write with width %d returns %d", width, e)
		}
		if rows, at, e := All(width, []byte{1}); len(rows) != 0 || at != 0 || e != api.ErrRange {
			t.Errorf("All with width %d returns %d", width, e)
		}
	}
	for _, rows := range [][][]int64{nil, table(r, 3, 51), append(table(r, 3, 2), []int64{1, 2}), append(table(r, 3, 2), nil), append(table(r, 3, 2), []int64{1, 2, 3, 4})} {
		if b, e := Block(3, rows); len(b) != 0 || e != api.ErrLong {
			t.Errorf("Block of %d rows returns %d", len(rows), e)
		}
	}
	good, _ := Block(1, [][]int64{{5}})
	for i, b := range [][]byte{
		nil, {0x5a}, {0x5b, good[1], good[2], good[3], good[4]}, {0x5a, 0, 0, 0, 0}, {0x5a, 51, 0, 0, 0}, {0x5a, 1, 0x80, 0, 0, 0},
	} {
		if rows, rest, e := Read(1, b); len(rows) != 0 || len(rest) != 0 || e != api.ErrForm {
			t.Errorf("bytes %d return %d", i, e)
		}
	}
	for count := range 256 { // any number of rows, with enough numbers
		b := append([]byte{0x5a, byte(count)}, make([]byte, 300)...)
		_, _, e := Read(1, b)
		want := api.ErrSum
		if count < 1 || count > 50 {
			want = api.ErrForm
		}
		if e != want {
			t.Errorf("%d rows return %d, want %d", count, e, want)
		}
	}
}

// Promises 45.3 and 45.4.
func TestWriteAndAll(t *testing.T) {
	r := rand.New(rand.NewSource(4))
	for _, n := range []int{0, 1, 49, 50, 51, 100, 101, 999, 1000} {
		width := 1 + r.Intn(16)
		rows := table(r, width, n)
		b, e := Write(width, rows)
		var want []byte
		for i := 0; i < n; i += 50 {
			want = append(want, reference(width, rows[i:min(i+50, n)])...)
		}
		if e != api.OK || !bytes.Equal(b, want) {
			t.Fatalf("Write of %d rows returns %d", n, e)
		}
		got, at, e := All(width, b)
		if e != api.OK || at != 0 || len(got) != n || n > 0 && !reflect.DeepEqual(got, rows) {
			t.Fatalf("All of %d rows returns %d, %d", n, at, e)
		}
	}
	for _, rows := range [][][]int64{table(r, 2, 1001), append(table(r, 2, 60), []int64{1})} {
		if b, e := Write(2, rows); len(b) != 0 || e != api.ErrLong {
			t.Errorf("Write of %d rows returns %d", len(rows), e)
		}
	}
	// Blocks of any length are read, one after the other.
	one, two, three := reference(2, table(r, 2, 3)), reference(2, table(r, 2, 50)), reference(2, table(r, 2, 1))
	join := func(l ...[]byte) []byte { return bytes.Join(l, nil) }
	if rows, at, e := All(2, join(one, two, three)); len(rows) != 54 || at != 0 || e != api.OK {
		t.Errorf("All returns %d rows, %d, %d", len(rows), at, e)
	}
	wrong := bytes.Clone(two)
	wrong[len(wrong)-1]++
	for _, x := range []struct {
		b  []byte
		at int
		e  api.Errno
	}{
		{join(one, wrong, three), len(one), api.ErrSum},
		{join(one, two, three[:4]), len(one) + len(two), api.ErrForm},
		{join(one, two, []byte{0}), len(one) + len(two), api.ErrForm},
		{join([]byte{0}, one), 0, api.ErrForm},
	} {
		if rows, at, e := All(2, x.b); len(rows) != 0 || at != x.at || e != x.e {
			t.Errorf("All returns %d, %d, want %d, %d", at, e, x.at, x.e)
		}
	}
}

func TestMemory(t *testing.T) {
	rows := [][]int64{{1, 2}, {3, 4}}
	b, _ := Write(2, rows)
	again, _, _ := Read(2, append(bytes.Clone(b), 9))
	again[0][0] = 77
	if again[1][0] != 3 || rows[0][0] != 1 || rows[1][1] != 4 {
		t.Error("rows share memory")
	}
	tail := append(bytes.Clone(b), 9)
	_, rest, _ := Read(2, tail)
	rest[0] = 1
	if tail[len(tail)-1] != 9 {
		t.Error("Read shares memory with its argument")
	}
}
