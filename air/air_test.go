package air

import (
	"math"
	"math/big"
	"slices"
	"testing"
)

func wantTemp(h int64) int64 {
	h = min(max(h, -100000), 2000000)
	if h > 1100000 {
		return 216650
	}
	drop := new(big.Int).Div(big.NewInt(65*h), big.NewInt(1000))
	return 288150 - drop.Int64()
}

// wantSteps follows the definition with big integers.
func wantSteps() []int64 {
	steps := make([]int64, 2101)
	times := func(p, n, d int64) int64 {
		r := new(big.Int).Mul(big.NewInt(p), big.NewInt(n))
		return r.Div(r, big.NewInt(d)).Int64()
	}
	steps[100] = 6484800
	for i := 100; i < 2100; i++ {
		d := 287053 * wantTemp(int64(i-100)*1000+500)
		steps[i+1] = times(steps[i], 2*d-98066500, 2*d+98066500)
	}
	for i := 99; i >= 0; i-- {
		d := 287053 * wantTemp(int64(i-100)*1000+500)
		steps[i] = times(steps[i+1], 2*d+98066500, 2*d-98066500)
	}
	return steps
}

// Promise 7.1, and 7.3 for the steps.
func TestSteps(t *testing.T) {
	var a Air
	steps := a.Steps()
	if !slices.Equal(steps, wantSteps()) {
		t.Fatal("the steps differ")
	}
	for i := 1; i < len(steps); i++ {
		if steps[i] >= steps[i-1] {
			t.Errorf("step %d does not decrease", i)
		}
	}
	// The standard atmosphere has about 22,632 Pa at 11 km.
	if p := steps[1200] / 64; p < 22600 || p > 22660 {
		t.Errorf("the pressure at 11 km is %d Pa", p)
	}
	steps[0] = 0
	if a.Steps()[0] == 0 {
		t.Error("Steps hands out its own memory")
	}
}

func TestTemp(t *testing.T) {
	for h := int64(-101000); h <= 2001000; h += 77 {
		if Temp(h) != wantTemp(h) {
			t.Fatalf("Temp(%d) = %d, want %d", h, Temp(h), wantTemp(h))
		}
	}
	for _, h := range []int64{math.MinInt64, -100001, -100000, -99999, -1, 0, 1, 15, 16, 1099999, 1100000, 1100001, 1999999, 2000000, 2000001, math.MaxInt64} {
		if Temp(h) != wantTemp(h) {
			t.Errorf("Temp(%d) = %d, want %d", h, Temp(h), wantTemp(h))
		}
	}
	if Temp(1100000) != 216650 || Temp(1000000) != 223150 || Temp(-1) != 288151 {
		t.Error("the examples")
	}
}

// Promises 7.2 and 7.3.
func TestPressure(t *testing.T) {
	var a Air
	steps := wantSteps()
	check := func(h int64) {
		c := min(max(h, -100000), 2000000)
		i := min((c+100000)/1000, 2099)
		dist := c + 100000 - i*1000
		want := steps[i] + new(big.Int).Div(big.NewInt((steps[i+1]-steps[i])*dist), big.NewInt(1000)).Int64()
		p := a.Pressure(h)
		if p != want {
			t.Fatalf("Pressure(%d) = %d, want %d", h, p, want)
		}
		if d := a.Height(p) - c; d < 0 || d > 1 {
			t.Fatalf("Height(Pressure(%d)) is off by %d", h, d)
		}
	}
	for h := int64(-100000); h <= 2000000; h += 7 {
		check(h)
	}
	for _, h := range []int64{math.MinInt64, -100001, -100000, -99999, -99000, -1, 0, 1, 999, 1000, 1001, 1999000, 1999999, 2000000, 2000001, math.MaxInt64} {
		check(h)
	}
	if a.Pressure(0) != 6484800 {
		t.Error("Pressure(0)")
	}
}

// Promises 7.2 and 7.3.
func TestHeight(t *testing.T) {
	var a Air
	steps := wantSteps()
	want := func(p int64) int64 {
		if p >= steps[0] {
			return -100000
		}
		if p <= steps[2100] {
			return 2000000
		}
		i, _ := slices.BinarySearchFunc(steps, p, func(s, p int64) int {
			if s >= p {
				return -1
			}
			return 1
		})
		i--
		if steps[i] < p || steps[i+1] >= p {
			t.Fatalf("the test's own search fails at %d", p)
		}
		return int64(i-100)*1000 + (steps[i]-p)*1000/(steps[i]-steps[i+1])
	}
	previous := int64(math.MaxInt64)
	for p := int64(340000); p < steps[0]+3; p++ {
		if p%13 != 0 && p > 400000 && p < steps[0]-3 {
			continue
		}
		h := a.Height(p)
		if h != want(p) || h > previous {
			t.Fatalf("Height(%d) = %d, want %d, before %d", p, h, want(p), previous)
		}
		previous = h
		if p >= steps[2100] && p <= steps[0] {
			if d := a.Pressure(h) - p; d < 0 || d > 9 {
				t.Fatalf("Pressure(Height(%d)) is off by %d", p, d)
			}
		}
	}
	for _, p := range append([]int64{math.MinInt64, -1, 0, 1, math.MaxInt64}, steps...) {
		if p == math.MinInt64 || p == math.MaxInt64 {
			if a.Height(p) != want(p) {
				t.Errorf("Height(%d)", p)
			}
			continue
		}
		for d := int64(-1); d <= 1; d++ {
			if a.Height(p+d) != want(p+d) {
				t.Errorf("Height(%d) = %d, want %d", p+d, a.Height(p+d), want(p+d))
			}
		}
	}
	if a.Height(6484800) != 0 {
		t.Error("Height(6484800)")
	}
}

func TestNil(t *testing.T) {
	var a *Air
	if len(a.Steps()) != 0 || a.Pressure(5) != 0 || a.Height(5) != 0 {
		t.Error("a nil Air")
	}
}
