package climb

import (
	"math"
	"math/big"
	"math/rand"
	"testing"

	"aneroid/api"
)

func open(t *testing.T, size int) *Meter {
	t.Helper()
	m, e := New(size)
	if m == nil || e != api.OK {
		t.Fatalf("New(%d) returns %d", size, e)
	}
	return m
}

func floor(a, b int64) int64 { return new(big.Int).Div(big.NewInt(a), big.NewInt(b)).Int64() }

func empty(m *Meter) bool {
	r, ok1 := m.Rate()
	f, ok2 := m.Minute()
	return r == 0 && !ok1 && f == 0 && !ok2 && m.Steepest() == 0
}

// Promises 27.1, 27.2 and 27.3.
func TestMeter(t *testing.T) {
	r := rand.New(rand.NewSource(27))
	for size := 1; size <= 64; size++ {
		m := open(t, size)
		for range 2 {
			var kept []int64
			if m.Len() != 0 || !empty(m) {
				t.Error("an empty meter has a rate")
			}
			for i := range 200 {
				h := r.Int63n(3000000) - 1000000
				if r.Intn(20) == 0 {
					h = []int64{math.MinInt64, math.MaxInt64, -100000001, 100000001, 100000000}[r.Intn(5)]
				}
				m.Put(h)
				kept = append(kept, min(max(h, -100000000), 100000000))
				kept = kept[max(len(kept)-size-1, 0):]
				if m.Len() != len(kept) {
					t.Fatalf("size %d: %d altitudes", size, m.Len())
				}
				if len(kept) < 2 {
					if !empty(m) {
						t.Error("one altitude has a rate")
					}
					continue
				}
				n := int64(len(kept) - 1)
				d := kept[n] - kept[0]
				rate, ok1 := m.Rate()
				minute, ok2 := m.Minute()
				if rate != floor(50*d, n) || minute != floor(300000*d, 3048*n) || !ok1 || !ok2 {
					t.Fatalf("size %d, altitude %d: rate %d, %d", size, i, rate, minute)
				}
				steepest := int64(0)
				for j := range n {
					steepest = max(steepest, kept[j+1]-kept[j], kept[j]-kept[j+1])
				}
				if m.Steepest() != steepest || max(rate, -rate) > 50*steepest+1 {
					t.Fatalf("size %d, altitude %d: steepest %d, want %d", size, i, m.Steepest(), steepest)
				}
			}
			m.Reset()
		}
	}
	for _, size := range []int{0, -1, 65, math.MinInt, math.MaxInt} {
		if m, e := New(size); m != nil || e != api.ErrRange {
			t.Errorf("New(%d) returns %d", size, e)
		}
	}
}

// Promise 27.3 and the examples.
func TestConsequences(t *testing.T) {
	for _, d := range []int64{-1000, -1, 0, 7, 1000} {
		m := open(t, 25)
		for i := range int64(100) {
			m.Put(5 + d*i)
			if rate, ok := m.Rate(); ok && rate != 50*d {
				t.Fatalf("%d per tick has the rate %d", d, rate)
			}
		}
	}
	m := open(t, 1)
	m.Put(0)
	m.Put(10)
	if rate, ok := m.Rate(); rate != 500 || !ok {
		t.Error("the example")
	}
	m.Put(9)
	if rate, _ := m.Minute(); rate != -99 { // -98.4, rounded down
		t.Errorf("Minute = %d", rate)
	}
}

func TestNil(t *testing.T) {
	var m *Meter
	m.Put(5)
	m.Reset()
	if m.Len() != 0 || !empty(m) {
		t.Error("a nil meter")
	}
}
