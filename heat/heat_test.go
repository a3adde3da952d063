package heat

import (
	"math"
	"math/big"
	"slices"
	"testing"

	"aneroid/air"
)

var temps = []int64{math.MinInt64, -1, 0, 1, 2, 1000, 216650, 288150, 400000, 999999, 1000000, 1000001, math.MaxInt64}
var machs = []int64{math.MinInt64, -1, 0, 1, 100, 7800, 10000, 19999, 20000, 20001, math.MaxInt64}
var recoveries = []int64{math.MinInt64, -1, 0, 1, 500, 980, 999, 1000, 1001, math.MaxInt64}

func clip(n, low, high int64) int64 { return min(max(n, low), high) }

func ratio(a, b, c int64) int64 {
	n := new(big.Int).Mul(big.NewInt(a), big.NewInt(b))
	return n.Div(n, big.NewInt(c)).Int64()
}

// Promises 10.1, 10.2 and 10.3.
func TestTemperatures(t *testing.T) {
	for _, temp := range temps {
		c := clip(temp, 1, 1000000)
		for _, r := range recoveries {
			for i, m := range machs {
				k := clip(m, 0, 20000)
				term := 500000000000 + clip(r, 0, 1000)*k*k
				static, total := Static(temp, m, r), Total(temp, m, r)
				if want := ratio(c, 500000000000, term); static != want {
					t.Errorf("Static(%d, %d, %d) = %d, want %d", temp, m, r, static, want)
				}
				if want := ratio(c, term, 500000000000); total != want {
					t.Errorf("Total(%d, %d, %d) = %d, want %d", temp, m, r, total, want)
				}
				if Ram(temp, m, r) != total-c {
					t.Errorf("Ram(%d, %d, %d) = %d", temp, m, r, Ram(temp, m, r))
				}
				if static > c || k == 0 && (static != c || total != c) {
					t.Errorf("the air is warmer than the probe for %d, %d, %d", temp, m, r)
				}
				if static >= 1 { // 0 would be clipped to 1
					if d := c - Total(static, m, r); d < 0 || d > 2 {
						t.Errorf("Total(Static(%d, %d, %d)) is off by %d", temp, m, r, d)
					}
				}
				if i > 0 && static > Static(temp, machs[i-1], r) {
					t.Errorf("Static(%d, %d, %d) increases with the Mach number", temp, m, r)
				}
			}
		}
	}
	if Static(288150, 0, 1000) != 288150 || Total(288150, 10000, 1000) != 345780 {
		t.Error("the examples")
	}
	if !slices.IsSorted(machs) {
		t.Error("the test needs sorted Mach numbers")
	}
}

// Promise 10.2.
func TestLapse(t *testing.T) {
	for _, temp := range temps {
		for _, h := range []int64{math.MinInt64, -100000, -1, 0, 1000000, 1100001, 2000000, math.MaxInt64} {
			if want := clip(temp, 1, 1000000) - air.Temp(h); Lapse(h, temp) != want {
				t.Errorf("Lapse(%d, %d) = %d, want %d", h, temp, Lapse(h, temp), want)
			}
		}
	}
	if Lapse(0, 290150) != 2000 {
		t.Error("Lapse(0, 290150)")
	}
}
