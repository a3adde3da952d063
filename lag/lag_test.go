package lag

import (
	"math"
	"math/big"
	"math/rand"
	"slices"
	"testing"

	"aneroid/api"
)

const limit = 1<<39 - 1

var samples = []int64{math.MinInt64, -limit - 1, -limit, -1000, -3, -1, 0, 1, 2, 5, 1000, limit, limit + 1, math.MaxInt64}

func clipped(x int64) int64 { return min(max(x, -limit), limit) }

func inputs(seed int64, n int) []int64 {
	r := rand.New(rand.NewSource(seed))
	l := slices.Clone(samples)
	for range n {
		l = append(l, int64(r.Uint64())>>r.Intn(64))
	}
	r.Shuffle(len(l), func(i, j int) { l[i], l[j] = l[j], l[i] })
	return l
}

// Promises 16.1 and 16.4.
func TestLag(t *testing.T) {
	for shift := 0; shift <= 16; shift++ {
		l, e := New(shift)
		if l == nil || e != api.OK {
			t.Fatalf("New(%d) returns %d", shift, e)
		}
		if v, ok := l.Value(); v != 0 || ok {
			t.Error("a new lag has a value")
		}
		for round := range 2 {
			var want, least, most int64
			for i, x := range inputs(int64(shift), 200) {
				c := clipped(x)
				if i == 0 {
					want, least, most = c, c, c
				}
				least, most = min(least, c), max(most, c)
				change := new(big.Int).Div(big.NewInt(c-want), big.NewInt(1<<shift))
				want += change.Int64()
				got := l.Step(x)
				if v, ok := l.Value(); got != want || v != want || !ok || got < least || got > most {
					t.Fatalf("shift %d, round %d, step %d gives %d, want %d", shift, round, i, got, want)
				}
			}
			l.Reset()
			if v, ok := l.Value(); v != 0 || ok {
				t.Error("a reset lag has a value")
			}
		}
	}
	for _, shift := range []int{-1, 17, math.MinInt, math.MaxInt} {
		if l, e := New(shift); l != nil || e != api.ErrRange {
			t.Errorf("New(%d) returns %d", shift, e)
		}
	}
	l, _ := New(1)
	if l.Step(0) != 0 || l.Step(5) != 2 {
		t.Error("the example")
	}
}

// Promises 16.2 and 16.4.
func TestWindow(t *testing.T) {
	for size := 1; size <= 64; size++ {
		w, e := Wide(size)
		if w == nil || e != api.OK {
			t.Fatalf("Wide(%d) returns %d", size, e)
		}
		if m, ok := w.Mean(); m != 0 || ok || w.Len() != 0 {
			t.Error("an empty window has a mean")
		}
		if a, b, ok := w.Bounds(); a != 0 || b != 0 || ok {
			t.Error("an empty window has bounds")
		}
		var kept []int64
		for i, x := range inputs(int64(size), 200) {
			w.Put(x)
			kept = append(kept, clipped(x))
			if len(kept) > size {
				kept = kept[1:]
			}
			sum := new(big.Int)
			for _, k := range kept {
				sum.Add(sum, big.NewInt(k))
			}
			want := sum.Div(sum, big.NewInt(int64(len(kept)))).Int64()
			if m, ok := w.Mean(); m != want || !ok || w.Len() != len(kept) {
				t.Fatalf("size %d, value %d: the mean is %d, want %d", size, i, m, want)
			}
			if a, b, ok := w.Bounds(); a != slices.Min(kept) || b != slices.Max(kept) || !ok {
				t.Fatalf("size %d, value %d: the bounds are %d, %d", size, i, a, b)
			}
		}
	}
	for _, size := range []int{0, -1, 65, math.MinInt, math.MaxInt} {
		if w, e := Wide(size); w != nil || e != api.ErrRange {
			t.Errorf("Wide(%d) returns %d", size, e)
		}
	}
}

// Promise 16.2 for nil.
func TestNil(t *testing.T) {
	var l *Lag
	l.Reset()
	if v, ok := l.Value(); l.Step(5) != 0 || v != 0 || ok {
		t.Error("a nil lag")
	}
	var w *Window
	w.Put(5)
	m, ok1 := w.Mean()
	a, b, ok2 := w.Bounds()
	if w.Len() != 0 || m != 0 || ok1 || a != 0 || b != 0 || ok2 {
		t.Error("a nil window")
	}
}

// Promise 16.3.
func TestMiddle(t *testing.T) {
	for _, a := range samples {
		for _, b := range samples {
			for _, c := range samples {
				l := []int64{a, b, c}
				slices.Sort(l)
				if Middle(a, b, c) != l[1] {
					t.Errorf("Middle(%d, %d, %d) = %d", a, b, c, Middle(a, b, c))
				}
			}
		}
	}
	if Middle(3, 1, 2) != 2 {
		t.Error("the example")
	}
}
