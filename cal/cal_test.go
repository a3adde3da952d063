package cal

import (
	"math"
	"math/big"
	"math/rand"
	"testing"

	"aneroid/api"
)

var good = []api.Cal{
	{Gain: 65536},
	{Gain: 256},
	{Gain: 1 << 24, Off: 1 << 32, Slope: 1 << 20, Drift: 1 << 24},
	{Gain: 1 << 24, Off: -1 << 32, Slope: -1 << 20, Drift: -1 << 24},
	{Gain: 256, Off: -5, Slope: 3, Drift: -256},
	{Gain: 256, Off: 5, Slope: -3, Drift: 256},
	{Gain: 70000, Off: 1234, Slope: -777, Drift: 321},
}

var bad = []api.Cal{
	{}, {Gain: 255}, {Gain: 1<<24 + 1}, {Gain: -65536}, {Gain: math.MinInt64}, {Gain: math.MaxInt64},
	{Gain: 65536, Off: 1<<32 + 1}, {Gain: 65536, Off: -1<<32 - 1}, {Gain: 65536, Off: math.MinInt64},
	{Gain: 65536, Slope: 1<<20 + 1}, {Gain: 65536, Slope: -1<<20 - 1},
	{Gain: 65536, Drift: 65537}, {Gain: 65536, Drift: -65537}, {Gain: 65536, Drift: math.MinInt64},
}

func floor(a, b int64) int64 { return new(big.Int).Div(big.NewInt(a), big.NewInt(b)).Int64() }

func clip(n, low, high int64) int64 { return min(max(n, low), high) }

func want(c api.Cal, x, t int64) int64 {
	x, t = clip(x, -1<<23, 1<<23-1), clip(t, -128, 127)
	gain := c.Gain + floor(c.Drift*t, 256)
	return c.Off + floor(gain*x, 65536) + floor(c.Slope*t, 256)
}

var raws = []int64{math.MinInt64, -1<<23 - 1, -1 << 23, -1<<23 + 1, -70000, -1, 0, 1, 5, 65535, 65536, 1<<23 - 2, 1<<23 - 1, 1 << 23, math.MaxInt64}
var temps = []int64{math.MinInt64, -129, -128, -127, -1, 0, 1, 20, 126, 127, 128, math.MaxInt64}

// Promises 14.1 and 14.3.
func TestAt(t *testing.T) {
	for _, c := range good {
		if !Right(c) {
			t.Errorf("%v is valid", c)
		}
		for _, temp := range temps {
			least, most, ok := Span(c, temp)
			if !ok || least != want(c, -1<<23, temp) || most != want(c, 1<<23-1, temp) {
				t.Errorf("Span(%v, %d) = %d, %d, %v", c, temp, least, most, ok)
			}
			for i, x := range raws {
				v, ok := At(c, x, temp)
				if v != want(c, x, temp) || !ok {
					t.Errorf("At(%v, %d, %d) = %d, %v, want %d", c, x, temp, v, ok, want(c, x, temp))
				}
				if before, _ := At(c, raws[max(i-1, 0)], temp); v < before {
					t.Errorf("At(%v, %d, %d) decreases", c, x, temp)
				}
			}
		}
	}
	if v, ok := At(good[0], 5, 0); v != 5 || !ok {
		t.Error("the example")
	}
}

// Promise 14.2.
func TestRaw(t *testing.T) {
	for _, c := range good {
		for _, temp := range temps {
			least, most, _ := Span(c, temp)
			values := []int64{math.MinInt64, least - 1, least, least + 1, 0, most - 1, most, most + 1, math.MaxInt64}
			r := rand.New(rand.NewSource(14))
			for range 10 {
				values = append(values, least+r.Int63n(most-least+1))
			}
			for _, v := range values {
				x, ok := Raw(c, v, temp)
				switch {
				case ok != (v <= most) || !ok && x != 0:
					t.Errorf("Raw(%v, %d, %d) = %d, %v", c, v, temp, x, ok)
				case ok && (want(c, x, temp) < v || x > -1<<23 && want(c, x-1, temp) >= v || x < -1<<23 || x > 1<<23-1):
					t.Errorf("Raw(%v, %d, %d) = %d is not the smallest", c, v, temp, x)
				}
			}
		}
	}
}

// Promises 14.2 and 14.3.
func TestError(t *testing.T) {
	for _, c := range good {
		for _, temp := range temps {
			gain := c.Gain + floor(c.Drift*clip(temp, -128, 127), 256)
			for _, by := range []int64{math.MinInt64, -1, 0, 1, 77, 65536, 1<<23 - 1, 1 << 23, 1<<23 + 1, math.MaxInt64} {
				e, ok := Error(c, temp, by)
				if want := floor(clip(by, 0, 1<<23)*gain, 65536) + 1; e != want || !ok {
					t.Errorf("Error(%v, %d, %d) = %d, %v, want %d", c, temp, by, e, ok, want)
				}
				if by < 0 || by > 1<<22 {
					continue
				}
				for _, x := range []int64{-1 << 23, -1000, 0, 12345} {
					a, _ := At(c, x, temp)
					b, _ := At(c, x+by, temp)
					if b-a > e || b < a {
						t.Errorf("values of %v at %d differ by %d", c, temp, b-a)
					}
				}
			}
		}
	}
}

func TestInvalid(t *testing.T) {
	for _, c := range bad {
		v, ok1 := At(c, 5, 0)
		x, ok2 := Raw(c, 5, 0)
		a, b, ok3 := Span(c, 0)
		e, ok4 := Error(c, 0, 5)
		if Right(c) || ok1 || ok2 || ok3 || ok4 || v != 0 || x != 0 || a != 0 || b != 0 || e != 0 {
			t.Errorf("%v is not valid", c)
		}
	}
}
