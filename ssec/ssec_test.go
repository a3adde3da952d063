package ssec

import (
	"math"
	"math/rand"
	"testing"

	"aneroid/api"
	"aneroid/mach"
	"aneroid/sheet"
)

func flat(z int64, rounds int) Correction {
	return Correction{api.Sheet{X: []int64{0, 10000}, Y: []int64{-5000, 15000}, Z: [][]int64{{z, z}, {z, z}}}, rounds}
}

func sloped(rounds int) Correction {
	return Correction{api.Sheet{
		X: []int64{0, 3000, 9000},
		Y: []int64{-5000, 0, 15000},
		Z: [][]int64{{100, -200, 300}, {5000, 0, -7000}, {100000, -100000, 40000}},
	}, rounds}
}

func good() []Correction {
	return []Correction{flat(0, 1), flat(640, 8), flat(-100000, 3), flat(100000, 4), sloped(1), sloped(2), sloped(8)}
}

func bad() []Correction {
	broken := flat(1, 1)
	broken.Errors.X[1] = 0
	return []Correction{{}, {Rounds: 3}, flat(1, 0), flat(1, 9), flat(1, -1), flat(100001, 1), flat(-100001, 1), flat(math.MinInt64, 1), flat(math.MaxInt64, 1), broken}
}

var machs = []int64{math.MinInt64, -1, 0, 1, 2999, 3000, 5000, 9000, 9001, math.MaxInt64}
var angles = []int64{math.MinInt64, -5000, -1, 0, 1, 7000, 15000, math.MaxInt64}
var pressures = []int64{math.MinInt64, -1, 0, 1, 2, 100, 64000, 300000, 6484800, 1 << 32, 1<<32 + 1, math.MaxInt64}

// Promise 38.1.
func TestError(t *testing.T) {
	for _, c := range good() {
		if !Right(c) {
			t.Fatalf("%v is valid", c)
		}
		most := int64(0)
		for _, row := range c.Errors.Z {
			for _, z := range row {
				most = max(most, z, -z)
			}
		}
		if w, ok := Worst(c); w != most || !ok {
			t.Errorf("Worst(%v) = %d, %v", c, w, ok)
		}
		for _, m := range machs {
			for _, alpha := range angles {
				want, _ := sheet.At(c.Errors, m, alpha)
				if v, ok := Error(c, m, alpha); v != want || !ok {
					t.Errorf("Error(%v, %d, %d) = %d, %v", c, m, alpha, v, ok)
				}
			}
		}
	}
	for i, c := range bad() {
		v, ok1 := Error(c, 1, 1)
		w, ok2 := Worst(c)
		s, ok3 := Static(c, 1, 1, 1)
		a, b, ok4 := Impact(c, 1, 1, 1)
		x, y, ok5 := Measured(c, 1, 1, 1)
		if Right(c) || ok1 || ok2 || ok3 || ok4 || ok5 || v != 0 || w != 0 || s != 0 || a != 0 || b != 0 || x != 0 || y != 0 {
			t.Errorf("correction %d is not valid", i)
		}
	}
}

func machOf(q, p int64) int64 {
	if q < 0 {
		return 0
	}
	m, _ := mach.At(q, p)
	return m
}

// Promises 38.2, 38.3 and 38.4.
func TestPressures(t *testing.T) {
	r := rand.New(rand.NewSource(38))
	qs, ps := append([]int64(nil), pressures...), append([]int64(nil), pressures...)
	for range 20 {
		qs, ps = append(qs, r.Int63n(5000000)), append(ps, r.Int63n(7000000))
	}
	for _, c := range good() {
		most, _ := Worst(c)
		for _, q := range qs {
			for _, p := range ps {
				alpha := angles[r.Intn(len(angles))]
				cq, cp := min(max(q, 0), 1<<32), min(max(p, 1), 1<<32)
				want := cp
				limited := false
				for range c.Rounds {
					v, _ := sheet.At(c.Errors, machOf(cq+cp-want, want), alpha)
					limited = cp-v < 1
					want = max(cp-v, 1)
				}
				s, ok := Static(c, q, p, alpha)
				if s != want || !ok {
					t.Fatalf("Static(%v, %d, %d, %d) = %d, want %d", c, q, p, alpha, s, want)
				}
				if !limited && max(s-cp, cp-s) > most {
					t.Fatalf("Static(%v, %d, %d, %d) = %d differs too much", c, q, p, alpha, s)
				}
				a, b, ok := Impact(c, q, p, alpha)
				if a != max(cq+cp-want, 0) || b != want || !ok {
					t.Fatalf("Impact(%v, %d, %d, %d) = %d, %d", c, q, p, alpha, a, b)
				}
				if a > 0 && a+b != cq+cp {
					t.Fatalf("Impact(%v, %d, %d, %d) changes the sum", c, q, p, alpha)
				}
				v, _ := sheet.At(c.Errors, machOf(cq, cp), alpha)
				x, y, ok := Measured(c, q, p, alpha)
				if tt := max(cp+v, 1); y != tt || x != max(cq+cp-tt, 0) || !ok {
					t.Fatalf("Measured(%v, %d, %d, %d) = %d, %d", c, q, p, alpha, x, y)
				}
				if most == 0 && (s != cp || a != cq || x != cq || y != cp) {
					t.Fatalf("errors of 0 change %d, %d", q, p)
				}
			}
		}
	}
	if s, ok := Static(flat(640, 2), 100000, 6000000, 0); s != 6000000-640 || !ok {
		t.Error("the example")
	}
}
