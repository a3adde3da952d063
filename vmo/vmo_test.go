package vmo

import (
	"math"
	"math/rand"
	"testing"

	"aneroid/api"
	"aneroid/curve"
	"aneroid/hull"
	"aneroid/mach"
	"aneroid/speed"
)

func flat(y int64) api.Curve { return api.Curve{X: []int64{0, 1}, Y: []int64{y, y}} }

func book() Book {
	return Book{
		Most:  api.Curve{X: []int64{0, 1000000}, Y: []int64{18000, 15000}},
		Least: api.Curve{X: []int64{100000, 500000}, Y: []int64{5000, 9000}},
		Mach:  8200, Margin: 300, Ticks: 3,
	}
}

func good() []Book {
	return []Book{
		book(), {flat(10000), flat(0), 20000, 0, 1}, {flat(10000), flat(12000), 1, 10000, 1000},
		{flat(1<<39 - 1), flat(-1<<39 + 1), 20000, 10000, 1}, {flat(-1<<39 + 1), flat(1<<39 - 1), 5, 10000, 2},
	}
}

func change(f func(*Book)) Book {
	b := book()
	f(&b)
	return b
}

func bad() []Book {
	return []Book{
		{}, change(func(b *Book) { b.Most = api.Curve{} }), change(func(b *Book) { b.Least.X[1] = 0 }),
		change(func(b *Book) { b.Mach = 0 }), change(func(b *Book) { b.Mach = 20001 }), change(func(b *Book) { b.Mach = math.MinInt64 }),
		change(func(b *Book) { b.Margin = -1 }), change(func(b *Book) { b.Margin = 10001 }),
		change(func(b *Book) { b.Ticks = 0 }), change(func(b *Book) { b.Ticks = 1001 }), change(func(b *Book) { b.Ticks = math.MinInt }),
	}
}

var numbers = []int64{math.MinInt64, -1, 0, 1, 250000, 500000, 1448000, 6484800, 1 << 40, math.MaxInt64}

func limits(b Book, h, p, weight int64) (int64, int64) {
	least, _ := curve.At(b.Least, weight)
	most, _ := curve.At(b.Most, h)
	return least, min(most, speed.Calibrated(mach.Impact(b.Mach, p)))
}

// Promise 43.1.
func TestLimits(t *testing.T) {
	for _, b := range good() {
		if !Right(b) {
			t.Errorf("%v is valid", b)
		}
		for _, h := range numbers {
			for _, p := range numbers {
				for _, weight := range numbers {
					wantLeast, wantMost := limits(b, h, p, weight)
					if least, most, ok := Limits(b, h, p, weight); least != wantLeast || most != wantMost || !ok {
						t.Errorf("Limits(%v, %d, %d, %d) = %d, %d", b, h, p, weight, least, most)
					}
					want, wantOK := hull.Span{Low: wantLeast, High: wantMost}, wantLeast <= wantMost
					if !wantOK {
						want = hull.Span{}
					}
					if s, ok := Band(b, h, p, weight); s != want || ok != wantOK {
						t.Errorf("Band(%v, %d, %d, %d) = %v, %v", b, h, p, weight, s, ok)
					}
				}
			}
		}
	}
	for i, b := range bad() {
		least, most, ok := Limits(b, 0, 6484800, 250000)
		s, ok2 := Band(b, 0, 6484800, 250000)
		w, e := New(b)
		if Right(b) || least != 0 || most != 0 || ok || s != (hull.Span{}) || ok2 || w != nil || e != api.ErrArg {
			t.Errorf("book %d is not valid", i)
		}
	}
}

// Promises 43.2 and 43.3.
func TestStep(t *testing.T) {
	r := rand.New(rand.NewSource(43))
	seen := map[int]int{}
	for _, b := range good() {
		if b.Ticks > 10 {
			b.Ticks = 10
		}
		w, e := New(b)
		if w == nil || e != api.OK || w.Marks() != 0 {
			t.Fatalf("New(%v) returns %d", b, e)
		}
		for range 3 {
			over, under, runOver, runUnder := false, false, 0, 0
			cas := int64(12000)
			for i := range 3000 {
				h, p, weight := r.Int63n(1000000), 3000000+r.Int63n(3000000), r.Int63n(600000)
				cas = min(max(cas+r.Int63n(2001)-1000, 3000), 20000)
				given := cas
				if r.Intn(200) == 0 {
					given = []int64{math.MinInt64, math.MaxInt64}[r.Intn(2)]
				}
				least, most := limits(b, h, p, weight)
				c := min(max(given, -api.Max), api.Max)
				if c > most {
					runOver++
				} else {
					runOver = 0
				}
				if c < least {
					runUnder++
				} else {
					runUnder = 0
				}
				if runOver >= b.Ticks {
					over = true
				}
				if c <= most-b.Margin {
					over = false
				}
				if runUnder >= b.Ticks {
					under = true
				}
				if c >= least+b.Margin {
					under = false
				}
				want := 0
				if over {
					want++
				}
				if under {
					want += 2
				}
				if least > most {
					want += 4
				}
				if got := w.Step(given, h, p, weight); got != want || w.Marks() != want {
					t.Fatalf("%v, step %d: %d, want %d", b, i, got, want)
				}
				if c >= least+b.Margin && c <= most-b.Margin && want&3 != 0 {
					t.Fatalf("%v, step %d: a flag between the limits", b, i)
				}
				seen[want]++
			}
			w.Clear()
			if w.Marks() != 0 {
				t.Error("Clear leaves flags")
			}
		}
	}
	for _, marks := range []int{0, Over, Under, Over | Under | Crossed} {
		if seen[marks] == 0 {
			t.Errorf("the flags %d never occurred", marks)
		}
	}
}

func TestEdges(t *testing.T) {
	if Over != 1 || Under != 2 || Crossed != 4 {
		t.Error("the constants")
	}
	w, _ := New(Book{flat(10000), flat(0), 20000, 0, 1})
	if w.Step(10000, 0, 6484800, 0) != 0 || w.Step(10001, 0, 6484800, 0) != Over || w.Step(10000, 0, 6484800, 0) != 0 {
		t.Error("the example")
	}
	b := Book{flat(10000), flat(5000), 20000, 100, 2}
	w, _ = New(b)
	b.Most.Y[0], b.Least.Y[0] = 1, 99999
	for i, x := range []struct {
		cas  int64
		want int
	}{
		{10001, 0}, {10000, 0}, {10001, 0}, {10001, Over}, {10000, Over}, {9901, Over}, {9900, 0}, {9901, 0},
		{4999, 0}, {4999, Under}, {5000, Under}, {5099, Under}, {5100, 0}, {4999, 0}, {5000, 0}, {4999, 0}, {4999, Under},
	} {
		if got := w.Step(x.cas, 0, 6484800, 0); got != x.want {
			t.Errorf("step %d: %d, want %d", i, got, x.want)
		}
	}
	w.Clear()
	w.Step(4999, 0, 6484800, 0)
	w.Clear()
	if w.Step(4999, 0, 6484800, 0) != 0 {
		t.Error("Clear keeps a run")
	}
	equal := Book{flat(10000), flat(10000), 20000, 0, 1}
	w, _ = New(equal)
	if s, ok := Band(equal, 0, 6484800, 0); s != (hull.Span{Low: 10000, High: 10000}) || !ok || w.Step(10000, 0, 6484800, 0) != 0 {
		t.Error("equal limits are not crossed")
	}
	var none *Warner
	none.Clear()
	if none.Step(1, 2, 3, 4) != 0 || none.Marks() != 0 {
		t.Error("a nil warner")
	}
}
