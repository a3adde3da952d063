package aoa

import (
	"math"
	"math/big"
	"math/rand"
	"testing"

	"aneroid/api"
	"aneroid/curve"
	"aneroid/lag"
)

func identity() api.Curve {
	return api.Curve{X: []int64{-90000, 90000}, Y: []int64{-90000, 90000}}
}

func good() []Vanes {
	const limit = 1<<39 - 1
	return []Vanes{
		{Local: identity()},
		{Local: identity(), Tau: 90000, Arm: 100000, Shift: 16},
		{Local: api.Curve{X: []int64{-20000, 0, 30000}, Y: []int64{-9000, 1000, 21000}}, Tau: 500, Arm: 700, Shift: 2},
		{Local: api.Curve{X: []int64{0, 1}, Y: []int64{-limit, limit}}, Tau: 3, Arm: 1, Shift: 1},
	}
}

func bad() []Vanes {
	return []Vanes{
		{}, {Local: identity(), Tau: -1}, {Local: identity(), Tau: 90001}, {Local: identity(), Arm: -1}, {Local: identity(), Arm: 100001},
		{Local: identity(), Shift: -1}, {Local: identity(), Shift: 17}, {Local: api.Curve{X: []int64{1, 1}, Y: []int64{0, 0}}},
		{Local: identity(), Tau: math.MinInt64, Arm: math.MaxInt64, Shift: math.MaxInt},
	}
}

var numbers = []int64{math.MinInt64, -100001, -100000, -90001, -90000, -500, -1, 0, 1, 999, 1000, 1001, 30000, 90000, 90001, 100000, 100001, math.MaxInt64}

func clipped(n int64) int64 { return min(max(n, -90000), 90000) }

func wantTurning(v Vanes, rate, speed int64) int64 {
	n := new(big.Int).Mul(big.NewInt(min(max(rate, -100000), 100000)), big.NewInt(v.Arm))
	return n.Div(n, big.NewInt(max(speed, 1000))).Int64()
}

func wantTrue(v Vanes, vane, rate, speed int64) int64 {
	local, _ := curve.At(v.Local, clipped(vane))
	return clipped(local + wantTurning(v, rate, speed))
}

// Promise 39.1.
func TestTrue(t *testing.T) {
	for _, v := range good() {
		if !Right(v) {
			t.Fatalf("%v is valid", v)
		}
		for _, rate := range numbers {
			for _, speed := range numbers {
				if c, ok := Turning(v, rate, speed); c != wantTurning(v, rate, speed) || !ok {
					t.Errorf("Turning(%v, %d, %d) = %d, want %d", v, rate, speed, c, wantTurning(v, rate, speed))
				}
				for _, vane := range numbers {
					if a, ok := True(v, vane, rate, speed); a != wantTrue(v, vane, rate, speed) || !ok {
						t.Errorf("True(%v, %d, %d, %d) = %d", v, vane, rate, speed, a)
					}
				}
			}
		}
	}
	for _, v := range bad() {
		a, ok1 := Turning(v, 5, 5)
		b, ok2 := True(v, 5, 5, 5)
		m, e := New(v)
		if Right(v) || a != 0 || ok1 || b != 0 || ok2 || m != nil || e != api.ErrArg {
			t.Errorf("%v is not valid", v)
		}
	}
	for _, a := range numbers {
		for _, b := range numbers {
			want := new(big.Int).Div(big.NewInt(clipped(a)-clipped(b)), big.NewInt(2)).Int64()
			if Slip(a, b) != want {
				t.Errorf("Slip(%d, %d) = %d", a, b, Slip(a, b))
			}
		}
	}
}

// Promises 39.2, 39.3 and 39.4.
func TestStep(t *testing.T) {
	r := rand.New(rand.NewSource(39))
	seen := map[int]int{}
	for _, v := range good() {
		m, e := New(v)
		if m == nil || e != api.OK {
			t.Fatalf("New(%v) returns %d", v, e)
		}
		for range 3 {
			filter, _ := lag.New(v.Shift)
			least, most := int64(math.MaxInt64), int64(math.MinInt64)
			for i := range 400 {
				left, right := api.Reading{Value: r.Int63n(20000) - 10000}, api.Reading{}
				right.Value = left.Value + r.Int63n(2*v.Tau+2) - v.Tau
				if r.Intn(3) == 0 {
					right.Value = r.Int63n(200000) - 100000
				}
				if r.Intn(5) == 0 {
					left.Err = api.ErrStale
				}
				if r.Intn(5) == 0 {
					right.Err = api.ErrNone
				}
				rate, speed := r.Int63n(40000)-20000, r.Int63n(30000)
				a, b := wantTrue(v, left.Value, rate, speed), wantTrue(v, right.Value, rate, speed)
				last, known := filter.Value()
				want, of := int64(0), None
				switch {
				case left.Err == 0 && right.Err == 0 && max(a-b, b-a) <= v.Tau:
					want, of = (a+b)>>1, Both
				case left.Err == 0 && right.Err == 0 && known && max(b-last, last-b) < max(a-last, last-a):
					want, of = b, Right1
				case left.Err == 0:
					want, of = a, Left
				case right.Err == 0:
					want, of = b, Right1
				}
				if left.Err == 0 {
					least, most = min(least, a), max(most, a)
				}
				if right.Err == 0 {
					least, most = min(least, b), max(most, b)
				}
				if of != None {
					last = filter.Step(want)
					known = true
				}
				got, source := m.Step(left, right, rate, speed)
				if got != last || source != of {
					t.Fatalf("%v, step %d: %d, %d, want %d, %d", v, i, got, source, last, of)
				}
				if alpha, ok := m.Alpha(); alpha != last || ok != known {
					t.Fatalf("%v, step %d: Alpha = %d, %v", v, i, alpha, ok)
				}
				if known && (got < least || got > most) {
					t.Fatalf("%v, step %d: %d is not between %d and %d", v, i, got, least, most)
				}
				seen[source]++
			}
			m.Reset()
			if a, ok := m.Alpha(); a != 0 || ok {
				t.Error("a reset leaves an output")
			}
		}
	}
	if len(seen) != 4 {
		t.Errorf("the sources %v", seen)
	}
}

func TestEdges(t *testing.T) {
	m, _ := New(Vanes{Local: identity(), Tau: 100})
	reading := func(v int64) api.Reading { return api.Reading{Value: v} }
	none := api.Reading{Value: 7, Err: api.ErrSum}
	for i, x := range []struct {
		left, right api.Reading
		alpha       int64
		of          int
	}{
		{none, none, 0, None},
		{reading(2000), reading(5000), 2000, Left}, // no output yet
		{reading(2000), reading(2000), 2000, Both},
		{reading(2000), reading(2100), 2050, Both},
		{reading(2000), reading(2101), 2000, Left}, // 50 and 51
		{reading(1000), reading(3000), 1000, Left}, // equally close
		{reading(3000), reading(1100), 1100, Right1},
		{none, reading(8000), 8000, Right1},
		{reading(9000), none, 9000, Left},
		{none, none, 9000, None},
	} {
		if a, of := m.Step(x.left, x.right, 0, 0); a != x.alpha || of != x.of {
			t.Errorf("step %d: %d, %d, want %d, %d", i, a, of, x.alpha, x.of)
		}
	}
	if Both != 0 || Left != 1 || Right1 != 2 || None != 3 {
		t.Error("the constants")
	}
	v := Vanes{Local: identity()}
	kept, _ := New(v)
	v.Local.X[0], v.Local.Y[0] = -1, 5
	if a, _ := kept.Step(reading(-500), reading(-500), 0, 0); a != -500 {
		t.Error("the meter keeps its argument")
	}
	var nobody *Meter
	nobody.Reset()
	a, of := nobody.Step(reading(5), reading(5), 0, 0)
	if alpha, ok := nobody.Alpha(); a != 0 || of != None || alpha != 0 || ok {
		t.Error("a nil meter")
	}
}
