package hydro

import (
	"math"
	"math/rand"
	"testing"

	"aneroid/air"
	"aneroid/api"
)

func open(t *testing.T, gate, step int64) *Learner {
	t.Helper()
	l, e := New(gate, step)
	if l == nil || e != api.OK {
		t.Fatalf("New(%d, %d) returns %d", gate, step, e)
	}
	return l
}

// Promise 19.1.
func TestNew(t *testing.T) {
	for _, x := range [][2]int64{{0, 1}, {10000000, 1000000}, {30000, 100}} {
		if v, ok := open(t, x[0], x[1]).Offset(); v != 0 || ok {
			t.Error("a new learner has an offset")
		}
	}
	for _, x := range [][2]int64{{-1, 1}, {10000001, 1}, {0, 0}, {0, -1}, {0, 1000001}, {math.MinInt64, 1}, {0, math.MaxInt64}} {
		if l, e := New(x[0], x[1]); l != nil || e != api.ErrRange {
			t.Errorf("New(%d, %d) returns %d", x[0], x[1], e)
		}
	}
}

// Promise 19.2.
func TestLearn(t *testing.T) {
	l := open(t, 50, 20)
	for i, x := range []struct {
		measured, height int64
		e                api.Errno
		offset           int64
	}{
		{100, 40, api.OK, 60},
		{100, 40, api.OK, 60},
		{111, 0, api.ErrRange, 60},
		{9, 0, api.ErrRange, 60},
		{110, 0, api.OK, 80},
		{100, 0, api.OK, 100},
		{110, 0, api.OK, 110},
		{60, 0, api.OK, 90},
		{85, 0, api.OK, 85},
	} {
		e := l.Learn(x.measured, x.height)
		if v, ok := l.Offset(); e != x.e || v != x.offset || !ok {
			t.Fatalf("step %d returns %d, offset %d, want %d, %d", i, e, v, x.e, x.offset)
		}
	}
	l.Forget()
	if v, ok := l.Offset(); v != 0 || ok {
		t.Error("Forget leaves an offset")
	}
	if l.Learn(math.MaxInt64, math.MinInt64) != api.OK {
		t.Error("the first offset is always learned")
	}
	if v, _ := l.Offset(); v != 200000000 {
		t.Errorf("the greatest offset is %d", v)
	}
	l.Forget()
	l.Learn(-100000001, 100000001)
	if v, _ := l.Offset(); v != -200000000 {
		t.Errorf("the smallest offset is %d", v)
	}
	if l.Learn(0, 0) != api.ErrRange {
		t.Error("a distant offset is learned")
	}
	strict := open(t, 0, 5)
	if strict.Learn(7, 0) != api.OK || strict.Learn(7, 0) != api.OK || strict.Learn(8, 0) != api.ErrRange {
		t.Error("gate 0")
	}
}

// Promise 19.3.
func TestPressure(t *testing.T) {
	var a air.Air
	l := open(t, 1000, 10)
	if p, ok := l.Pressure(&a, 5000); p != 0 || ok {
		t.Error("a pressure without an offset")
	}
	l.Learn(700, 200)
	for _, h := range []int64{-200000, -1, 0, 500, 123456, 1100000, 3000000} {
		if p, ok := l.Pressure(&a, h); p != a.Pressure(h-500) || !ok {
			t.Errorf("Pressure(%d) = %d, %v", h, p, ok)
		}
	}
	for _, h := range []int64{math.MinInt64, math.MaxInt64} {
		if p, ok := l.Pressure(&a, h); p != a.Pressure(h/2) || !ok {
			t.Errorf("Pressure(%d) = %d, %v", h, p, ok)
		}
	}
	if p, ok := l.Pressure(nil, 500); p != 0 || !ok {
		t.Error("Pressure with a nil Air")
	}
	// The measured altitude is clipped before the offset is subtracted.
	far := open(t, 10, 10)
	far.Learn(100000000, -99900000)
	if p, ok := far.Pressure(&a, 300000000); p != a.Pressure(100000000-199900000) || !ok {
		t.Errorf("Pressure beyond the range = %d", p)
	}
}

// Promise 19.4.
func TestConsequences(t *testing.T) {
	r := rand.New(rand.NewSource(19))
	l := open(t, 400, 30)
	var least, most, previous int64
	for i := range 5000 {
		d := r.Int63n(1000) - 500
		if l.Learn(d+77, 77) != api.OK {
			continue
		}
		v, _ := l.Offset()
		if i == 0 {
			least, most, previous = d, d, d
		}
		least, most = min(least, d), max(most, d)
		if v < least || v > most || max(v-previous, previous-v) > 30 {
			t.Fatalf("step %d: offset %d after %d", i, v, previous)
		}
		previous = v
	}
	for range 40 {
		l.Learn(previous+400, 0)
	}
	if v, _ := l.Offset(); v != previous+400 {
		t.Errorf("repeated learning leads to %d, want %d", v, previous+400)
	}
}

func TestNil(t *testing.T) {
	var l *Learner
	l.Forget()
	p, ok1 := l.Pressure(&air.Air{}, 5)
	v, ok2 := l.Offset()
	if l.Learn(1, 2) != api.ErrArg || p != 0 || ok1 || v != 0 || ok2 {
		t.Error("a nil learner")
	}
}
