package wind

import (
	"math"
	"math/rand"
	"testing"

	"aneroid/api"
	"aneroid/lag"
	"aneroid/root"
	"aneroid/turn"
)

func open(t *testing.T, shift int) *Estimator {
	t.Helper()
	w, e := New(shift)
	if w == nil || e != api.OK {
		t.Fatalf("New(%d) returns %d", shift, e)
	}
	return w
}

// Promise 20.1.
func TestNew(t *testing.T) {
	for shift := 0; shift <= 16; shift++ {
		w := open(t, shift)
		n, e, ok1 := w.Wind()
		a, s := w.From()
		v, ok2 := w.Airspeed(3, 4)
		if n != 0 || e != 0 || ok1 || a != 0 || s != 0 || v != 0 || ok2 {
			t.Error("a new estimator has a wind")
		}
	}
	for _, shift := range []int{-1, 17, math.MinInt, math.MaxInt} {
		if w, e := New(shift); w != nil || e != api.ErrRange {
			t.Errorf("New(%d) returns %d", shift, e)
		}
	}
}

func clipped(n int64) int64 { return min(max(n, -10000000), 10000000) }

// Promises 20.2 and 20.3.
func TestStep(t *testing.T) {
	random := rand.New(rand.NewSource(20))
	draw := func() int64 {
		if random.Intn(20) == 0 {
			return []int64{math.MinInt64, math.MaxInt64, -10000001, 10000001, 10000000, -10000000, 0}[random.Intn(7)]
		}
		return random.Int63n(60000) - 30000
	}
	var turner turn.Turner
	for shift := 0; shift <= 16; shift += 4 {
		w := open(t, shift)
		for round := range 3 {
			north, _ := lag.New(shift)
			east, _ := lag.New(shift)
			least, most := int64(math.MaxInt64), int64(math.MinInt64)
			for i := range 200 {
				f := Flow{Tas: draw(), Heading: uint16(random.Intn(65536)), North: draw(), East: draw()}
				w.Step(f)
				x, y := turner.Point(f.Heading, clipped(f.Tas))
				blows := clipped(f.North) - x
				least, most = min(least, blows), max(most, blows)
				wantNorth, wantEast := north.Step(blows), east.Step(clipped(f.East)-y)
				n, e, ok := w.Wind()
				if n != wantNorth || e != wantEast || !ok || n < least || n > most {
					t.Fatalf("shift %d, round %d, step %d: wind %d, %d, want %d, %d", shift, round, i, n, e, wantNorth, wantEast)
				}
				if a, s := w.From(); a != turner.Angle(-n, -e) || s != root.Hypot(n, e) {
					t.Fatalf("From = %d, %d for the wind %d, %d", a, s, n, e)
				}
				gn, ge := draw(), draw()
				if v, ok := w.Airspeed(gn, ge); v != root.Hypot(clipped(gn)-n, clipped(ge)-e) || !ok {
					t.Fatalf("Airspeed(%d, %d) = %d", gn, ge, v)
				}
			}
			w.Forget()
			if n, e, ok := w.Wind(); n != 0 || e != 0 || ok {
				t.Error("Forget leaves a wind")
			}
		}
	}
}

// Promise 20.3.
func TestConstantWind(t *testing.T) {
	var turner turn.Turner
	for _, tas := range []int64{0, 1, 5, 777, 25000, 999999, 1000000} {
		w := open(t, 4)
		for i := range 300 {
			heading := uint16(i * 219)
			x, y := turner.Point(heading, tas)
			w.Step(Flow{Tas: tas, Heading: heading, North: 1500 + x, East: -700 + y})
			if n, e, ok := w.Wind(); n != 1500 || e != -700 || !ok {
				t.Fatalf("the wind is %d, %d", n, e)
			}
			v, _ := w.Airspeed(1500+x, -700+y)
			if d := max(v-tas, tas-v); d > tas/500000+4 {
				t.Fatalf("Airspeed differs from %d by %d", tas, d)
			}
		}
	}
	w := open(t, 0)
	w.Step(Flow{North: 100})
	if n, e, ok := w.Wind(); n != 100 || e != 0 || !ok {
		t.Error("the example")
	}
	// A wind that blows to the north comes from the south, up to the precision
	// of the angle of a short vector.
	if a, s := w.From(); a < 32768-256 || a > 32768+256 || s != 100 {
		t.Errorf("From = %d, %d", a, s)
	}
}

func TestNil(t *testing.T) {
	var w *Estimator
	w.Step(Flow{North: 5})
	w.Forget()
	n, e, ok1 := w.Wind()
	a, s := w.From()
	v, ok2 := w.Airspeed(3, 4)
	if n != 0 || e != 0 || ok1 || a != 0 || s != 0 || v != 0 || ok2 {
		t.Error("a nil estimator")
	}
}
