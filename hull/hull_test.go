package hull

import (
	"math"
	"math/rand"
	"testing"

	"aneroid/air"
	"aneroid/heat"
	"aneroid/mach"
	"aneroid/speed"
)

var samples = []int64{math.MinInt64, -1<<40 - 1, -1 << 40, -5, -1, 0, 1, 2, 7, 1000, 1 << 40, 1<<40 + 1, math.MaxInt64}

func spans() []Span {
	var l []Span
	for _, a := range samples {
		for _, b := range samples {
			l = append(l, Span{a, b})
		}
	}
	return l
}

// Promise 35.1.
func TestOf(t *testing.T) {
	if s, ok := Of(); s != (Span{}) || ok {
		t.Error("Of nothing")
	}
	if s, ok := Of(3, 1, 2); s != (Span{1, 3}) || !ok {
		t.Error("the example")
	}
	if s, ok := Of(math.MaxInt64, math.MinInt64); s != (Span{math.MinInt64, math.MaxInt64}) || !ok {
		t.Error("Of the extremes")
	}
	if s, ok := Of(-4); s != (Span{-4, -4}) || !ok {
		t.Error("Of one")
	}
}

// Promise 35.1.
func TestSets(t *testing.T) {
	clip := func(n int64) int64 { return min(max(n, -1<<40), 1<<40) }
	for _, a := range spans() {
		if Right(a) != (a.Low <= a.High) {
			t.Errorf("Right(%v)", a)
		}
		for _, v := range samples {
			if Has(a, v) != (v >= a.Low && v <= a.High) {
				t.Errorf("Has(%v, %d)", a, v)
			}
			want := a
			if Right(a) {
				by := min(max(v, 0), 1<<40)
				want = Span{clip(a.Low) - by, clip(a.High) + by}
			}
			if got := Widen(a, v); got != want {
				t.Errorf("Widen(%v, %d) = %v, want %v", a, v, got, want)
			}
		}
		for _, b := range spans() {
			join, meet, ok := Span{min(a.Low, b.Low), max(a.High, b.High)}, Span{max(a.Low, b.Low), min(a.High, b.High)}, true
			if !Right(b) {
				join = a
			}
			if !Right(a) {
				join = b
			}
			if !Right(a) || !Right(b) || meet.Low > meet.High {
				meet, ok = Span{}, false
			}
			if got := Join(a, b); got != join {
				t.Errorf("Join(%v, %v) = %v", a, b, got)
			}
			if got, gotOK := Meet(a, b); got != meet || gotOK != ok {
				t.Errorf("Meet(%v, %v) = %v, %v", a, b, got, gotOK)
			}
		}
	}
}

// Promise 35.2.
func TestResults(t *testing.T) {
	var a air.Air
	empty := Span{5, 4}
	p, q, m, temp := Span{1000000, 6000000}, Span{0, 900000}, Span{100, 9000}, Span{200000, 300000}
	machs := func(low, high int64, l, h int64) Span {
		x, _ := mach.At(low, h)
		y, _ := mach.At(high, l)
		return Span{x, y}
	}
	if Heights(&a, p) != (Span{a.Height(6000000), a.Height(1000000)}) || Heights(&a, empty) != (Span{}) || Heights(nil, p) != (Span{}) {
		t.Error("Heights")
	}
	if Speeds(q) != (Span{speed.Calibrated(0), speed.Calibrated(900000)}) || Speeds(empty) != (Span{}) {
		t.Error("Speeds")
	}
	if s, ok := Machs(q, p); s != machs(0, 900000, 1000000, 6000000) || !ok {
		t.Errorf("Machs = %v, %v", s, ok)
	}
	for _, x := range [][2]Span{{empty, p}, {q, empty}, {{-1, 5}, p}, {q, {0, 5}}, {q, {-3, 5}}, {{math.MinInt64, 0}, p}} {
		if s, ok := Machs(x[0], x[1]); s != (Span{}) || ok {
			t.Errorf("Machs(%v) = %v, %v", x, s, ok)
		}
	}
	if s, ok := Machs(Span{0, 0}, Span{1, 1}); !ok || s != (Span{}) {
		t.Error("Machs at the limits")
	}
	if Temps(temp, m, 980) != (Span{heat.Static(200000, 9000, 980), heat.Static(300000, 100, 980)}) || Temps(empty, m, 980) != (Span{}) || Temps(temp, empty, 980) != (Span{}) {
		t.Error("Temps")
	}
	if Trues(m, temp) != (Span{speed.True(100, 200000), speed.True(9000, 300000)}) || Trues(empty, temp) != (Span{}) || Trues(m, empty) != (Span{}) {
		t.Error("Trues")
	}
}

// Promise 35.3.
func TestConsequences(t *testing.T) {
	var a air.Air
	r := rand.New(rand.NewSource(35))
	draw := func(most int64) (Span, int64) {
		s, _ := Of(r.Int63n(most)+1, r.Int63n(most)+1)
		return s, s.Low + r.Int63n(s.High-s.Low+1)
	}
	for range 5000 {
		ps, p := draw(8000000)
		qs, q := draw(9000000)
		ts, temp := draw(1100000)
		recovery := r.Int63n(1200) - 100
		ms, ok := Machs(qs, ps)
		m, _ := mach.At(q, p)
		outside, air2 := Temps(ts, ms, recovery), heat.Static(temp, m, recovery)
		if !ok || !Has(ms, m) || !Has(Heights(&a, ps), a.Height(p)) || !Has(Speeds(qs), speed.Calibrated(q)) ||
			!Has(outside, air2) || !Has(Trues(ms, outside), speed.True(m, air2)) {
			t.Fatalf("a result for %d, %d, %d is out of its span", p, q, temp)
		}
	}
}
