package baro

import (
	"math"
	"math/big"
	"testing"

	"aneroid/air"
	"aneroid/api"
)

var pressures = []int64{math.MinInt64, -1, 0, 1, 343000, 1448000, 4800000, 6000000, 6484800, 6912000, 7300000, math.MaxInt64}

// Promises 11.1 and 11.3.
func TestCorrected(t *testing.T) {
	var a air.Air
	for _, p := range pressures {
		previous := int64(math.MinInt64)
		for setting := int64(7490); setting <= 10810; setting += 5 {
			want := a.Height(p) - a.Height(640*min(max(setting, 7500), 10800))
			got := Corrected(&a, p, setting)
			if got != want || got < previous {
				t.Fatalf("Corrected(%d, %d) = %d, want %d", p, setting, got, want)
			}
			previous = got
		}
		for _, setting := range []int64{math.MinInt64, math.MaxInt64} {
			if Corrected(&a, p, setting) != Corrected(&a, p, min(max(setting, 7500), 10800)) {
				t.Errorf("setting %d is not clipped", setting)
			}
		}
	}
}

// Promises 11.1 and 11.3.
func TestSetting(t *testing.T) {
	var a air.Air
	for _, p := range pressures {
		low, high := Corrected(&a, p, 7500), Corrected(&a, p, 10800)
		heights := []int64{math.MinInt64, low - 1, low, low + 1, high - 1, high, high + 1, math.MaxInt64}
		for h := low; h < high; h += 1777 {
			heights = append(heights, h)
		}
		for _, h := range heights {
			s := Setting(&a, p, h)
			switch {
			case s < 7500 || s > 10800:
				t.Errorf("Setting(%d, %d) = %d", p, h, s)
			case h > high:
				if s != 10800 {
					t.Errorf("Setting(%d, %d) = %d, want 10800", p, h, s)
				}
			case Corrected(&a, p, s) < h || s > 7500 && Corrected(&a, p, s-1) >= h:
				t.Errorf("Setting(%d, %d) = %d is not the smallest", p, h, s)
			}
		}
	}
}

func TestNilAir(t *testing.T) {
	if Corrected(nil, 6000000, 10132) != 0 {
		t.Error("Corrected with a nil Air")
	}
	if Setting(nil, 6000000, 0) != 7500 || Setting(nil, 6000000, 1) != 10800 {
		t.Error("Setting with a nil Air")
	}
}

// Promises 11.2 and 11.3.
func TestFeet(t *testing.T) {
	floor := func(a, b, c int64) int64 {
		n := new(big.Int).Mul(big.NewInt(a), big.NewInt(b))
		return n.Div(n, big.NewInt(c)).Int64()
	}
	for _, h := range []int64{math.MinInt64, -api.Max - 1, -api.Max, -304800, -3048, -1525, -1524, -1, 0, 1, 30, 31, 1523, 1524, 3048, 304800, 1 << 39, api.Max - 1, api.Max, api.Max + 1, math.MaxInt64} {
		c := min(max(h, -api.Max), api.Max)
		if want := floor(c, 100, 3048); Feet(h) != want {
			t.Errorf("Feet(%d) = %d, want %d", h, Feet(h), want)
		}
		if want := floor(c+1524, 1, 3048); Level(h) != want {
			t.Errorf("Level(%d) = %d, want %d", h, Level(h), want)
		}
		if want := min(max(floor(c, 3048, 100), -api.Max), api.Max); Metres(h) != want {
			t.Errorf("Metres(%d) = %d, want %d", h, Metres(h), want)
		}
	}
	for f := int64(-100000); f < 100000; f += 13 {
		if d := Feet(Metres(f)) - f; d < -1 || d > 0 {
			t.Errorf("Feet(Metres(%d)) is off by %d", f, d)
		}
	}
	if Feet(3048) != 100 || Level(304800) != 100 {
		t.Error("the examples")
	}
}
