package fade

import (
	"math"
	"math/big"
	"math/rand"
	"testing"

	"aneroid/api"
)

const limit = 1<<39 - 1

// Promise 26.1.
func TestNew(t *testing.T) {
	for _, length := range []int{0, 1, 1000} {
		f, e := New(length)
		if f == nil || e != api.OK {
			t.Fatalf("New(%d) returns %d", length, e)
		}
		if v, ok := f.Out(); v != 0 || ok || f.Left() != 0 {
			t.Error("a new fader has an output")
		}
	}
	for _, length := range []int{-1, 1001, math.MinInt, math.MaxInt} {
		if f, e := New(length); f != nil || e != api.ErrRange {
			t.Errorf("New(%d) returns %d", length, e)
		}
	}
}

// Promises 26.2, 26.3 and 26.4.
func TestStep(t *testing.T) {
	r := rand.New(rand.NewSource(26))
	for _, length := range []int{0, 1, 2, 3, 10, 1000} {
		f, _ := New(length)
		for range 5 {
			var out, least, most int64
			left, known, since := 0, false, -1
			for i := range 3000 {
				v := int64(r.Uint64()) >> r.Intn(64)
				changed := r.Intn(2*length+3) == 0
				c := min(max(v, -limit), limit)
				if !known {
					least, most = c, c
				}
				least, most = min(least, c), max(most, c)
				if changed && known {
					left, since = length, 0
				}
				if left > 0 {
					part := new(big.Int).Quo(big.NewInt(c-out), big.NewInt(int64(left)))
					out += part.Int64()
					left--
				} else {
					out = c
				}
				known = true
				if since >= 0 {
					since++
				}
				got := f.Step(v, changed)
				if o, ok := f.Out(); got != out || o != out || !ok || f.Left() != left {
					t.Fatalf("length %d, step %d: %d, left %d, want %d, %d", length, i, got, f.Left(), out, left)
				}
				if got < least || got > most || (since < 0 || since >= length) && got != c {
					t.Fatalf("length %d, step %d: %d for %d, %d steps after a change", length, i, got, c, since)
				}
			}
			f.Reset()
			if v, ok := f.Out(); v != 0 || ok || f.Left() != 0 {
				t.Error("the state after a reset")
			}
		}
	}
}

func TestExamples(t *testing.T) {
	f, _ := New(2)
	if f.Step(10, true) != 10 || f.Step(20, true) != 15 || f.Step(20, false) != 20 || f.Step(7, false) != 7 {
		t.Error("the example")
	}
	// Truncated towards zero, in both directions.
	g, _ := New(3)
	if g.Step(0, false) != 0 || g.Step(-5, true) != -1 || g.Left() != 2 || g.Step(-5, false) != -3 || g.Step(-5, false) != -5 {
		t.Error("towards zero")
	}
}

func TestNil(t *testing.T) {
	var f *Fader
	f.Reset()
	if v, ok := f.Out(); f.Step(5, true) != 0 || f.Left() != 0 || v != 0 || ok {
		t.Error("a nil fader")
	}
}
