package stream

import (
	"bytes"
	"math/rand"
	"reflect"
	"testing"

	"aneroid/api"
	"aneroid/tape"
)

// special draws bytes among which flags and escapes are frequent.
func special(r *rand.Rand, n int) []byte {
	b := make([]byte, n)
	for i := range b {
		b[i] = byte(r.Intn(256))
		if r.Intn(2) == 0 {
			b[i] = []byte{126, 125, 94, 93, 0}[r.Intn(5)]
		}
	}
	return b
}

func reference(b []byte) []byte {
	s := tape.Sum(b)
	out := []byte{126}
	for _, x := range append(bytes.Clone(b), byte(s>>8), byte(s)) {
		switch x {
		case 126:
			out = append(out, 125, 94)
		case 125:
			out = append(out, 125, 93)
		default:
			out = append(out, x)
		}
	}
	return append(out, 126)
}

// Promises 47.1 and 47.4.
func TestPack(t *testing.T) {
	r := rand.New(rand.NewSource(47))
	for n := range 70 {
		for range 20 {
			b := special(r, n)
			kept := bytes.Clone(b)
			f, e := Pack(b)
			if n < 1 || n > 64 {
				if len(f) != 0 || e != api.ErrLong {
					t.Fatalf("Pack of %d bytes returns %d", n, e)
				}
				continue
			}
			if e != api.OK || !bytes.Equal(f, reference(b)) || !bytes.Equal(b, kept) {
				t.Fatalf("Pack(%x) = %x, %d", b, f, e)
			}
			if bytes.Count(f, []byte{126}) != 2 {
				t.Fatalf("Pack(%x) = %x has flags inside", b, f)
			}
		}
	}
	roomy := append(make([]byte, 0, 100), 5)
	Pack(roomy)
	if !bytes.Equal(roomy[:3], []byte{5, 0, 0}) {
		t.Error("Pack writes behind its argument")
	}
	if f, _ := Pack([]byte{126}); !bytes.HasPrefix(f, []byte{126, 125, 94}) {
		t.Error("the example")
	}
}

func TestRow(t *testing.T) {
	r := rand.New(rand.NewSource(48))
	l := [][]byte{special(r, 1), special(r, 64), special(r, 30)}
	row, e := Row(l)
	if e != api.OK || !bytes.Equal(row, bytes.Join([][]byte{reference(l[0]), reference(l[1]), reference(l[2])}, nil)) {
		t.Errorf("Row returns %d", e)
	}
	if row, e := Row(nil); len(row) != 0 || e != api.OK {
		t.Error("Row of nothing")
	}
	for _, l := range [][][]byte{{nil}, {{1}, {}}, {{1}, make([]byte, 65), {2}}} {
		if row, e := Row(l); len(row) != 0 || e != api.ErrLong {
			t.Errorf("Row returns %d", e)
		}
	}
}

// Promises 47.2, 47.3 and 47.4: packets are found however the bytes are
// divided, and whatever came before.
func TestPush(t *testing.T) {
	r := rand.New(rand.NewSource(49))
	for round := range 300 {
		var l [][]byte
		for range 1 + r.Intn(8) {
			l = append(l, special(r, 1+r.Intn(64)))
		}
		row, _ := Row(l)
		var f Feeder
		before := special(r, r.Intn(300))
		early := f.Push(before)
		found, refused := f.Counts()
		if found != len(early) {
			t.Fatalf("%d packets, but %d counted", len(early), found)
		}
		pending := f.Pending()
		var got [][]byte
		for rest := row; len(rest) > 0; {
			n := min(1+r.Intn(40), len(rest))
			got = append(got, f.Push(rest[:n])...)
			rest = rest[n:]
		}
		if len(got) == len(l)+1 { // the bytes before may end as a packet
			got = got[1:]
		}
		if !reflect.DeepEqual(got, l) {
			t.Fatalf("round %d: %x, want %x", round, got, l)
		}
		after, afterRefused := f.Counts()
		if extra := after - found + afterRefused - refused - len(l); extra != 0 && pending == 0 || extra != 1 && pending > 0 {
			t.Fatalf("round %d: the counts are %d, %d", round, after, afterRefused)
		}
		if f.Pending() != 0 {
			t.Fatalf("round %d: %d bytes are pending", round, f.Pending())
		}
	}
}

// model processes the bytes between two flags.
func accept(b []byte) ([]byte, bool) {
	if len(b) > 140 {
		return nil, false
	}
	var out []byte
	for i := 0; i < len(b); i++ {
		if b[i] != 125 {
			out = append(out, b[i])
			continue
		}
		if i+1 >= len(b) || b[i+1] != 94 && b[i+1] != 93 {
			return nil, false
		}
		i++
		out = append(out, map[byte]byte{94: 126, 93: 125}[b[i]])
	}
	n := len(out) - 2
	if n < 1 || n > 64 || tape.Sum(out[:n]) != uint16(out[n])<<8|uint16(out[n+1]) {
		return nil, false
	}
	return out[:n], true
}

func TestModel(t *testing.T) {
	r := rand.New(rand.NewSource(50))
	var f Feeder
	var held []byte
	found, refused := 0, 0
	for range 4000 {
		var b []byte
		switch r.Intn(4) {
		case 0:
			b = special(r, r.Intn(200))
		case 1:
			b = reference(special(r, 1+r.Intn(64)))
		case 2:
			b = reference(special(r, 1+r.Intn(64)))
			b[r.Intn(len(b))] ^= 1 << r.Intn(8)
		case 3:
			b = make([]byte, r.Intn(160))
		}
		var want [][]byte
		for _, x := range b {
			if x != 126 {
				held = append(held, x)
				continue
			}
			if p, ok := accept(held); ok {
				want, found = append(want, p), found+1
			} else if len(held) > 0 {
				refused++
			}
			held = nil
		}
		kept := bytes.Clone(b)
		got := f.Push(b)
		if len(got) != len(want) || len(want) > 0 && !reflect.DeepEqual(got, want) || !bytes.Equal(b, kept) {
			t.Fatalf("Push(%x) = %x, want %x", b, got, want)
		}
		if a, c := f.Counts(); a != found || c != refused || f.Pending() != min(len(held), 141) {
			t.Fatalf("counts %d, %d, pending %d, want %d, %d, %d", a, c, f.Pending(), found, refused, len(held))
		}
		if r.Intn(10) == 0 {
			f.Reset()
			held = nil
			if a, c := f.Counts(); a != found || c != refused || f.Pending() != 0 {
				t.Fatal("Reset")
			}
		}
	}
	if found < 100 || refused < 100 {
		t.Errorf("only %d found, %d refused", found, refused)
	}
}

// Promise 47.3 and the definition: long sequences and empty ones.
func TestLong(t *testing.T) {
	var f Feeder
	for n := 1; n <= 150; n++ {
		f.Push([]byte{1})
		if f.Pending() != min(n, 141) {
			t.Fatalf("%d bytes: %d are pending", n, f.Pending())
		}
	}
	if l := f.Push([]byte{126}); len(l) != 0 || f.Pending() != 0 {
		t.Error("a long sequence")
	}
	f.Push([]byte{126, 126, 126})
	if a, b := f.Counts(); a != 0 || b != 1 {
		t.Errorf("the counts are %d, %d", a, b)
	}
	for i, b := range [][]byte{{1}, {1, 2}, {125}, {1, 2, 3, 125}, {125, 1, 2, 3}, {125, 125, 94}, {255, 255}} {
		f.Push(append(b, 126))
		if _, refused := f.Counts(); refused != 2+i {
			t.Errorf("the bytes %v are not refused", b)
		}
	}
}

func TestMemory(t *testing.T) {
	var f Feeder
	b := append(reference([]byte{1, 2, 3}), reference([]byte{4, 5, 6})...)
	l := f.Push(b)
	l[0] = append(l[0], 99, 99, 99, 99)
	l[0][0] = 77
	if !bytes.Equal(l[1], []byte{4, 5, 6}) || b[1] != 1 {
		t.Error("packets share memory")
	}
}

func TestNil(t *testing.T) {
	var f *Feeder
	f.Reset()
	a, b := f.Counts()
	if l := f.Push(reference([]byte{1})); len(l) != 0 || a != 0 || b != 0 || f.Pending() != 0 {
		t.Error("a nil feeder")
	}
}
