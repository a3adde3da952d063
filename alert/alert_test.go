package alert

import (
	"math"
	"math/rand"
	"testing"

	"aneroid/api"
)

var bands = Bands{Hold: 100, Warn: 200, Near: 900}

var bad = []Bands{
	{}, {0, 200, 900}, {-1, 200, 900}, {100, 100, 900}, {100, 200, 200}, {100, 200, 1000001}, {300, 200, 900},
	{math.MinInt64, 0, 1}, {1, math.MaxInt64, math.MaxInt64},
}

// want is promise 42.1, literally, for valid bands.
func want(state int, d int64, b Bands) (int, bool) {
	d = max(d, 0)
	var next int
	switch {
	case d <= b.Hold:
		next = Held
	case state == Held:
		next = Far
		if d <= b.Warn {
			next = Held
		} else if d <= b.Near {
			next = Leaving
		}
	case state == Leaving:
		next = Far
		if d <= b.Near {
			next = Leaving
		}
	default:
		next = Far
		if d <= b.Near {
			next = Coming
		}
	}
	return next, next == Coming && state != Coming || next == Leaving && state == Held
}

// Promise 42.1.
func TestNext(t *testing.T) {
	for _, b := range []Bands{bands, {1, 2, 3}, {999998, 999999, 1000000}} {
		if !Right(b) {
			t.Errorf("%v is valid", b)
		}
		for _, state := range []int{Off, Far, Coming, Held, Leaving, -1, 5, math.MinInt, math.MaxInt} {
			for _, d := range []int64{math.MinInt64, -1, 0, 1, b.Hold, b.Hold + 1, b.Warn, b.Warn + 1, b.Near - 1, b.Near, b.Near + 1, math.MaxInt64} {
				wantState, wantChime := want(state, d, b)
				if next, chime := Next(state, d, b); next != wantState || chime != wantChime {
					t.Errorf("Next(%d, %d, %v) = %d, %v, want %d, %v", state, d, b, next, chime, wantState, wantChime)
				}
			}
		}
	}
	for _, b := range bad {
		if next, chime := Next(Held, 300, b); Right(b) || next != Off || chime {
			t.Errorf("%v is not valid", b)
		}
		if a, e := New(b); a != nil || e != api.ErrRange {
			t.Errorf("New(%v) returns %d", b, e)
		}
	}
	if Off != 0 || Far != 1 || Coming != 2 || Held != 3 || Leaving != 4 {
		t.Error("the constants")
	}
}

// Promises 42.2 and 42.3.
func TestAlerter(t *testing.T) {
	a, e := New(bands)
	if a == nil || e != api.OK || a.State() != Off || a.Chimes() != 0 {
		t.Fatalf("New returns %d", e)
	}
	if s, c := a.Step(5); s != Off || c {
		t.Error("a step without a selected altitude")
	}
	r := rand.New(rand.NewSource(42))
	state, chimes, before, h, selected, on := Off, 0, false, int64(0), int64(0), false
	for i := range 20000 {
		switch r.Intn(200) {
		case 0:
			selected = []int64{0, 1000, math.MaxInt64, math.MinInt64, 100000000, -100000001}[r.Intn(6)]
			a.Select(selected)
			selected = min(max(selected, -100000000), 100000000)
			state, on, before = Off, true, false
		case 1:
			a.Clear()
			state, on, before = Off, false, false
		case 2:
			h = []int64{math.MinInt64, math.MaxInt64, selected}[r.Intn(3)]
		}
		if a.State() != state {
			t.Fatalf("step %d: the state is %d", i, a.State())
		}
		h = min(max(h, selected-1500), selected+1500) + r.Int63n(301) - 150
		chime := false
		if on {
			d := min(max(h, -100000000), 100000000) - selected
			state, chime = want(state, max(d, -d), bands)
		}
		if chime {
			chimes++
		}
		if s, c := a.Step(h); s != state || c != chime || a.State() != state || a.Chimes() != chimes {
			t.Fatalf("step %d at %d: %d, %v, want %d, %v", i, h-selected, s, c, state, chime)
		}
		if before && chime {
			t.Fatalf("step %d: two chimes", i)
		}
		before = chime
	}
	if chimes < 50 {
		t.Errorf("only %d chimes", chimes)
	}
}

func TestExample(t *testing.T) {
	a, _ := New(bands)
	a.Select(0)
	for i, x := range []struct {
		h     int64
		state int
		chime bool
	}{
		{1000, Far, false}, {500, Coming, true}, {50, Held, false}, {200, Held, false}, {300, Leaving, true},
		{-150, Leaving, false}, {-100, Held, false}, {-901, Far, false}, {900, Coming, true},
	} {
		if s, c := a.Step(x.h); s != x.state || c != x.chime {
			t.Errorf("step %d: %d, %v", i, s, c)
		}
	}
	a.Select(500)
	if a.State() != Off || a.Chimes() != 3 {
		t.Error("Select keeps the state or forgets the chimes")
	}
	if s, c := a.Step(-50); s != Coming || !c {
		t.Error("the first step after Select")
	}
	a.Clear()
	if s, c := a.Step(500); s != Off || c || a.State() != Off || a.Chimes() != 4 {
		t.Error("Clear")
	}
}

func TestNil(t *testing.T) {
	var a *Alerter
	a.Select(5)
	a.Clear()
	if s, c := a.Step(5); s != Off || c || a.State() != Off || a.Chimes() != 0 {
		t.Error("a nil alerter")
	}
}
