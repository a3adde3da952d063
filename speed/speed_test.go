package speed

import (
	"math"
	"math/big"
	"slices"
	"testing"

	"aneroid/api"
	"aneroid/mach"
)

var extremes = []int64{math.MinInt64, math.MinInt64 + 1, -api.Max, -1, 0, 1, 2, 1000, api.Max, math.MaxInt64 - 1, math.MaxInt64}

// fit is promise 2.2 with big integers, for a positive divisor.
func fit(a, b, c *big.Int) int64 {
	n := new(big.Int).Mul(a, b)
	n.Div(n, c)
	if n.CmpAbs(big.NewInt(api.Max)) > 0 {
		return api.Max * int64(n.Sign())
	}
	return n.Int64()
}

func wantSound(t int64) int64 {
	t = min(max(t, 1), 1000000)
	n := big.NewInt(4018742 * t / 1000)
	return n.Sqrt(n).Int64()
}

// Promises 9.1 and 9.4.
func TestSound(t *testing.T) {
	previous := int64(0)
	for temp := int64(-2); temp <= 1000002; temp += 3 {
		v := Sound(temp)
		if v != wantSound(temp) || v < previous {
			t.Fatalf("Sound(%d) = %d, want %d", temp, v, wantSound(temp))
		}
		previous = v
	}
	for _, temp := range append([]int64{999999, 1000000, 1000001, 216650}, extremes...) {
		if Sound(temp) != wantSound(temp) {
			t.Errorf("Sound(%d) = %d, want %d", temp, Sound(temp), wantSound(temp))
		}
	}
	if Sound(288150) != 34029 {
		t.Errorf("Sound(288150) = %d", Sound(288150))
	}
}

func TestTrue(t *testing.T) {
	for _, m := range append([]int64{3, 8500, 9999, 10000, 19999, 20000, 20001}, extremes...) {
		for _, temp := range append([]int64{216650, 288150, 1000000, 1000001}, extremes...) {
			want := min(max(m, 0), 20000) * wantSound(temp) / 10000
			if True(m, temp) != want {
				t.Errorf("True(%d, %d) = %d, want %d", m, temp, True(m, temp), want)
			}
		}
	}
}

// Promises 9.2 and 9.4.
func TestCalibrated(t *testing.T) {
	previous := int64(0)
	for q := int64(0); q < 40000000; q += 12345 {
		m, _ := mach.At(q, 6484800)
		v := Calibrated(q)
		if want := m * 34029 / 10000; v != want || v < previous {
			t.Fatalf("Calibrated(%d) = %d, want %d", q, v, want)
		}
		previous = v
	}
	for _, q := range []int64{math.MinInt64, -api.Max, -1, 0} {
		if Calibrated(q) != 0 {
			t.Errorf("Calibrated(%d) = %d", q, Calibrated(q))
		}
	}
	if Calibrated(math.MaxInt64) != 68058 {
		t.Errorf("the greatest speed is %d", Calibrated(math.MaxInt64))
	}
}

// Promise 9.2.
func TestImpact(t *testing.T) {
	want := func(cas int64) int64 {
		cas = min(max(cas, 0), 68058)
		m := max((cas*10000+34028)/34029-2, 0)
		for m*34029/10000 < cas {
			m++
		}
		return mach.Impact(m, 6484800)
	}
	for cas := int64(-2); cas <= 68062; cas += 11 {
		if Impact(cas) != want(cas) {
			t.Fatalf("Impact(%d) = %d, want %d", cas, Impact(cas), want(cas))
		}
	}
	for _, cas := range append([]int64{3, 4, 5, 34028, 34029, 34030, 68057, 68058, 68059}, extremes...) {
		if Impact(cas) != want(cas) {
			t.Errorf("Impact(%d) = %d, want %d", cas, Impact(cas), want(cas))
		}
	}
}

// Promise 9.3.
func TestDensity(t *testing.T) {
	for _, p := range append([]int64{6484800, 1400000}, extremes...) {
		for _, temp := range append([]int64{216650, 288150, 1000000, 1000001}, extremes...) {
			c := new(big.Int).Mul(big.NewInt(18371392), big.NewInt(min(max(temp, 1), 1000000)))
			want := fit(big.NewInt(max(p, 0)), big.NewInt(1000000000000), c)
			if Density(p, temp) != want {
				t.Errorf("Density(%d, %d) = %d, want %d", p, temp, Density(p, temp), want)
			}
		}
	}
	// About 1.225 kg per cubic metre at sea level.
	if d := Density(6484800, 288150); d != 1224977 && (d < 1224000 || d > 1226000) {
		t.Errorf("the density at sea level is %d", d)
	}
}

// Promises 9.3 and 9.4.
func TestDynamic(t *testing.T) {
	speeds := append([]int64{5000, 34029, 99999, 100000, 100001}, extremes...)
	densities := append([]int64{1225000, 1 << 30}, extremes...)
	slices.Sort(speeds)
	slices.Sort(densities)
	for i, d := range densities {
		for j, v := range speeds {
			want := int64(0)
			if d >= 0 && v >= 0 {
				square := big.NewInt(min(v, 100000))
				want = fit(big.NewInt(d), square.Mul(square, square), big.NewInt(312500000))
			}
			got := Dynamic(d, v)
			if got != want {
				t.Errorf("Dynamic(%d, %d) = %d, want %d", d, v, got, want)
			}
			if i > 0 && got < Dynamic(densities[i-1], v) || j > 0 && got < Dynamic(d, speeds[j-1]) {
				t.Errorf("Dynamic is not monotone at %d, %d", d, v)
			}
		}
	}
}
