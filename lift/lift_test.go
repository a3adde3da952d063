package lift

import (
	"math"
	"math/big"
	"testing"

	"aneroid/api"
	"aneroid/curve"
)

const limit = 1<<39 - 1

func flat(c int64) api.Curve { return api.Curve{X: []int64{0, 1}, Y: []int64{c, c}} }

func slope() api.Curve {
	return api.Curve{X: []int64{-10000, 5000, 20000}, Y: []int64{-5000, 10000, 20000}}
}

// Promise 18.1.
func TestRight(t *testing.T) {
	for _, w := range []Wing{{flat(1), 1, 1}, {flat(-5), 100000000, 1000000}, {slope(), 1000000, 1000}} {
		if !Right(w) {
			t.Errorf("%v is valid", w)
		}
		for _, alpha := range []int64{math.MinInt64, -10000, 0, 7777, math.MaxInt64} {
			want, _ := curve.At(w.Lift, alpha)
			if c, ok := Coefficient(w, alpha); c != want || !ok {
				t.Errorf("Coefficient(%v, %d) = %d, %v", w, alpha, c, ok)
			}
		}
	}
	for _, w := range []Wing{
		{}, {api.Curve{}, 1, 1}, {flat(1), 0, 1}, {flat(1), -1, 1}, {flat(1), 100000001, 1},
		{flat(1), 1, 0}, {flat(1), 1, 1000001}, {flat(1), math.MinInt64, math.MaxInt64}, {flat(limit + 1), 1, 1},
	} {
		if c, ok := Coefficient(w, 0); Right(w) || c != 0 || ok {
			t.Errorf("%v is not valid", w)
		}
		if q, e := Dynamic(w, 0, 0, 0); q != 0 || e != api.ErrArg {
			t.Errorf("Dynamic(%v) returns %d, %d", w, q, e)
		}
		if q, e := Synthetic(w, 0, 0, 0, 0); q != 0 || e != api.ErrArg {
			t.Errorf("Synthetic(%v) returns %d, %d", w, q, e)
		}
	}
}

// wantDynamic computes promise 18.1 for a valid wing.
func wantDynamic(w Wing, alpha, load, weight int64) (int64, api.Errno) {
	if load < 1 || load > 10000 || weight < 1 || weight > 100000000 {
		return 0, api.ErrRange
	}
	c, _ := curve.At(w.Lift, alpha)
	if c < w.Least {
		return 0, api.ErrLow
	}
	n := new(big.Int).Mul(big.NewInt(weight*load), big.NewInt(6400000))
	n.Div(n, new(big.Int).Mul(big.NewInt(w.Area), big.NewInt(min(c, 1<<36))))
	if n.Cmp(big.NewInt(api.Max)) > 0 {
		return 0, api.ErrHigh
	}
	return n.Int64(), api.OK
}

var wings = []Wing{
	{flat(1), 1, 1}, {flat(limit), 100000000, 1}, {flat(1 << 36), 100000000, 1000000}, {flat(1<<36 + 1), 3, 1},
	{slope(), 1000000, 1000}, {flat(999), 10, 1000}, {flat(1000), 10, 1000}, {flat(-5), 10, 1}, {flat(10000), 10000, 1},
}
var loads = []int64{math.MinInt64, -1, 0, 1, 2, 1000, 9999, 10000, 10001, math.MaxInt64}
var weights = []int64{math.MinInt64, -1, 0, 1, 100, 500000, 99999999, 100000000, 100000001, math.MaxInt64}

// Promises 18.1 and 18.3.
func TestDynamic(t *testing.T) {
	for _, w := range wings {
		for _, alpha := range []int64{math.MinInt64, -4000, 0, 500, 5000, 20000, math.MaxInt64} {
			for i, load := range loads {
				for j, weight := range weights {
					q, e := Dynamic(w, alpha, load, weight)
					if want, wantE := wantDynamic(w, alpha, load, weight); q != want || e != wantE {
						t.Fatalf("Dynamic(%v, %d, %d, %d) = %d, %d, want %d, %d", w, alpha, load, weight, q, e, want, wantE)
					}
					if e != api.OK || i == 0 || j == 0 {
						continue
					}
					lighter, _ := Dynamic(w, alpha, load, weights[j-1])
					gentler, _ := Dynamic(w, alpha, loads[i-1], weight)
					if q < lighter || q < gentler {
						t.Errorf("Dynamic(%v, %d, %d, %d) decreases", w, alpha, load, weight)
					}
				}
			}
		}
	}
	if q, e := Dynamic(wings[8], 0, 1000, 100); q != 6400 || e != api.OK {
		t.Errorf("the example gives %d, %d", q, e)
	}
	// A greater coefficient never gives a greater pressure.
	previous := int64(math.MaxInt64)
	for alpha := int64(-4000); alpha < 21000; alpha += 500 {
		q, e := Dynamic(wings[4], alpha, 1000, 500000)
		if e != api.OK || q > previous {
			t.Errorf("at %d the pressure is %d, %d", alpha, q, e)
		}
		previous = q
	}
}

// wantImpact computes promise 18.2.
func wantImpact(q, p int64) int64 {
	if q < 0 || p < 1 {
		return 0
	}
	q, p = min(q, 1<<32), min(p, 1<<32)
	n := new(big.Int).Mul(big.NewInt(q), big.NewInt(10*q))
	n.Div(n, big.NewInt(28*p))
	if n.Cmp(big.NewInt(api.Max)) > 0 {
		return q + api.Max
	}
	return q + n.Int64()
}

var pressures = []int64{math.MinInt64, -1, 0, 1, 2, 64000, 6484800, 1<<32 - 1, 1 << 32, 1<<32 + 1, math.MaxInt64}

// Promise 18.2.
func TestImpact(t *testing.T) {
	for _, q := range pressures {
		for _, p := range pressures {
			if Impact(q, p) != wantImpact(q, p) {
				t.Errorf("Impact(%d, %d) = %d, want %d", q, p, Impact(q, p), wantImpact(q, p))
			}
		}
	}
}

// Promise 18.2: the errors of Dynamic come first.
func TestSynthetic(t *testing.T) {
	for _, w := range wings {
		for _, load := range loads {
			for _, weight := range weights {
				for _, p := range pressures {
					q, want := wantDynamic(w, 500, load, weight)
					if want == api.OK && p < 1 {
						want = api.ErrRange
					}
					impact := int64(0)
					if want == api.OK {
						impact = wantImpact(q, p)
					}
					if got, e := Synthetic(w, 500, load, weight, p); got != impact || e != want {
						t.Fatalf("Synthetic(%v, 500, %d, %d, %d) = %d, %d, want %d, %d", w, load, weight, p, got, e, impact, want)
					}
				}
			}
		}
	}
}
