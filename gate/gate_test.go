package gate

import (
	"math"
	"math/rand"
	"testing"

	"aneroid/api"
)

const limit = 1<<39 - 1

func open(t *testing.T, l api.Limits) *Gate {
	t.Helper()
	g, e := New(l)
	if g == nil || e != api.OK {
		t.Fatalf("New(%v) returns %d", l, e)
	}
	return g
}

// Promise 15.1.
func TestNew(t *testing.T) {
	for _, l := range []api.Limits{{}, {Low: -limit, High: limit, Rate: limit}, {Low: 5, High: 5}, {Low: -3, High: 9, Rate: 1}} {
		open(t, l)
	}
	for _, l := range []api.Limits{
		{Low: 1}, {Low: 6, High: 5}, {Low: -limit - 1}, {High: limit + 1}, {Rate: -1}, {Rate: limit + 1},
		{Low: math.MinInt64, High: math.MaxInt64}, {Rate: math.MinInt64}, {Rate: math.MaxInt64},
	} {
		if g, e := New(l); g != nil || e != api.ErrRange {
			t.Errorf("New(%v) returns %d", l, e)
		}
	}
}

// Promises 15.2 and 15.3: a value of miss stands for a tick without one.
const miss = math.MaxInt64 - 5

func TestCheck(t *testing.T) {
	g := open(t, api.Limits{Low: 0, High: 9, Rate: 2})
	if v, ok := g.Last(); v != 0 || ok {
		t.Error("a new gate has a value")
	}
	for i, x := range []struct {
		v    int64
		e    api.Errno
		last int64
	}{
		{-1, api.ErrLow, -1},
		{10, api.ErrHigh, -1},
		{math.MinInt64, api.ErrLow, -1},
		{math.MaxInt64, api.ErrHigh, -1},
		{5, api.OK, 5},
		{8, api.ErrRate, 5},
		{8, api.OK, 8},
		{5, api.ErrRate, 8},
		{-1, api.ErrLow, 8},
		{2, api.OK, 2},
		{2, api.OK, 2},
		{miss, 0, 2},
		{miss, 0, 2},
		{9, api.ErrRate, 2},
		{9, api.OK, 9},
		{7, api.OK, 7},
		{9, api.OK, 9},
	} {
		if x.v == miss {
			g.Miss()
		} else if e := g.Check(x.v); e != x.e {
			t.Fatalf("tick %d with %d returns %d, want %d", i, x.v, e, x.e)
		}
		v, ok := g.Last()
		if ok != (x.last >= 0) || ok && v != x.last || !ok && v != 0 {
			t.Errorf("after tick %d the last value is %d, %v", i, v, ok)
		}
	}
	g.Reset()
	if v, ok := g.Last(); v != 0 || ok {
		t.Error("a reset leaves a value")
	}
	if g.Check(0) != api.OK {
		t.Error("a reset gate compares with an old value")
	}
}

// Promise 15.2: the number of ticks is limited, and the product saturates.
func TestManyTicks(t *testing.T) {
	g := open(t, api.Limits{Low: 0, High: 2000, Rate: 1})
	g.Check(0)
	for range 1500 {
		g.Miss()
	}
	if e := g.Check(1001); e != api.ErrRate {
		t.Errorf("1001 after many ticks returns %d", e)
	}
	if e := g.Check(1000); e != api.OK {
		t.Errorf("1000 after many ticks returns %d", e)
	}
	wide := open(t, api.Limits{Low: -limit, High: limit, Rate: limit})
	if wide.Check(-limit) != api.OK || wide.Check(limit) != api.ErrRate || wide.Check(limit) != api.OK {
		t.Error("from one edge to the other")
	}
	for range 1000 {
		wide.Miss()
	}
	if wide.Check(-limit) != api.OK {
		t.Error("the greatest rate after many ticks")
	}
	still := open(t, api.Limits{Low: 0, High: 9})
	if still.Check(4) != api.OK || still.Check(5) != api.ErrRate || still.Check(4) != api.OK {
		t.Error("rate 0")
	}
}

// Promise 15.4.
func TestConsequences(t *testing.T) {
	r := rand.New(rand.NewSource(15))
	g := open(t, api.Limits{Low: -100, High: 100, Rate: 7})
	var last int64
	known, ticks := false, int64(0)
	for range 20000 {
		ticks++
		if r.Intn(4) == 0 {
			g.Miss()
			continue
		}
		v := r.Int63n(240) - 120
		if g.Check(v) != api.OK {
			continue
		}
		if v < -100 || v > 100 || known && max(v-last, last-v) > 7*ticks {
			t.Fatalf("%d was accepted after %d, %d ticks", v, last, ticks)
		}
		last, known, ticks = v, true, 0
	}
}

func TestNil(t *testing.T) {
	var g *Gate
	g.Miss()
	g.Reset()
	if v, ok := g.Last(); g.Check(0) != api.ErrArg || v != 0 || ok {
		t.Error("a nil gate")
	}
}
