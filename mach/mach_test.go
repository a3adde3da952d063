package mach

import (
	"math"
	"math/big"
	"testing"

	"aneroid/api"
)

// wantRatio follows the definition with big integers.
func wantRatio(m int64) int64 {
	m = min(max(m, 0), 20000)
	one := big.NewInt(1 << 30)
	mul := func(a, b *big.Int) *big.Int { return new(big.Int).Mul(a, b) }
	div := func(a, b *big.Int) *big.Int { return new(big.Int).Div(a, b) }
	if m <= 10000 {
		x := new(big.Int).Add(one, div(mul(big.NewInt(m*m), one), big.NewInt(500000000)))
		x2 := div(mul(x, x), one)
		x3 := div(mul(x2, x), one)
		r := new(big.Int).Sqrt(mul(x, one))
		return new(big.Int).Sub(div(mul(x3, r), one), one).Int64()
	}
	table := []int64{8929, 11328, 14075, 17136, 20492, 24133, 28050, 32238, 36695, 41418, 46404}
	y := func(i int64) int64 { return table[i] << 30 / 10000 }
	i := min((m-10000)/1000, 9)
	return y(i) + (y(i+1)-y(i))*(m-10000-1000*i)/1000
}

// Promises 8.1 and 8.3.
func TestRatio(t *testing.T) {
	previous := int64(-1)
	for m := int64(-3); m <= 20003; m++ {
		r := Ratio(m)
		if r != wantRatio(m) || r < previous {
			t.Fatalf("Ratio(%d) = %d, want %d, before %d", m, r, wantRatio(m), previous)
		}
		previous = r
	}
	for _, m := range []int64{math.MinInt64, math.MaxInt64} {
		if Ratio(m) != wantRatio(m) {
			t.Errorf("Ratio(%d) = %d", m, Ratio(m))
		}
	}
	if Ratio(0) != 0 {
		t.Error("Ratio(0)")
	}
	// (1 + 1 / 5)^3.5 - 1 at Mach 1.
	if r := float64(Ratio(10000)) / api.One; math.Abs(r-0.892929) > 1e-5 {
		t.Errorf("the ratio at Mach 1 is %f", r)
	}
}

func wantOf(ratio int64) int64 {
	best := int64(0)
	for low, high := int64(0), int64(20000); low <= high; {
		m := (low + high) / 2
		if wantRatio(m) <= ratio {
			best, low = m, m+1
		} else {
			high = m - 1
		}
	}
	return best
}

// Promises 8.1 and 8.3.
func TestOf(t *testing.T) {
	for m := int64(0); m <= 20000; m += 7 {
		r := wantRatio(m)
		for d := int64(-1); d <= 1; d++ {
			if Of(r+d) != wantOf(r+d) {
				t.Fatalf("Of(%d) = %d, want %d", r+d, Of(r+d), wantOf(r+d))
			}
		}
		if found := Of(r); found < m || Ratio(found) != r {
			t.Fatalf("Of(Ratio(%d)) = %d", m, found)
		}
	}
	for _, x := range []struct{ ratio, want int64 }{
		{math.MinInt64, 0}, {-1, 0}, {wantRatio(20000), 20000}, {wantRatio(20000) - 1, 19999}, {math.MaxInt64, 20000},
	} {
		if Of(x.ratio) != x.want {
			t.Errorf("Of(%d) = %d, want %d", x.ratio, Of(x.ratio), x.want)
		}
	}
}

// fit is promise 2.2 with big integers, for a positive divisor.
func fit(a, b, c int64) int64 {
	n := new(big.Int).Mul(big.NewInt(a), big.NewInt(b))
	n.Div(n, big.NewInt(c))
	if n.CmpAbs(big.NewInt(api.Max)) > 0 {
		return api.Max * int64(n.Sign())
	}
	return n.Int64()
}

// Promise 8.2.
func TestImpact(t *testing.T) {
	for _, m := range []int64{math.MinInt64, -1, 0, 1, 500, 9999, 10000, 10001, 15500, 20000, 20001, math.MaxInt64} {
		for _, p := range []int64{math.MinInt64, -api.Max, -5, -1, 0, 1, 7, 6484800, 1 << 39, api.Max, math.MaxInt64} {
			if got, want := Impact(m, p), fit(p, wantRatio(m), api.One); got != want {
				t.Errorf("Impact(%d, %d) = %d, want %d", m, p, got, want)
			}
		}
	}
}

// Promises 8.2 and 8.3.
func TestAt(t *testing.T) {
	for _, p := range []int64{1, 2, 64000, 6484800, 1 << 40, math.MaxInt64} {
		previous := int64(0)
		for _, q := range []int64{0, 1, 2, 100, 64000, 640000, 3000000, 40000000, 1 << 40, math.MaxInt64} {
			m, ok := At(q, p)
			if want := wantOf(fit(q, api.One, p)); m != want || !ok || m < previous {
				t.Errorf("At(%d, %d) = %d, %v, want %d", q, p, m, ok, want)
			}
			previous = m
		}
	}
	for _, x := range [][2]int64{{-1, 5}, {5, 0}, {5, -1}, {math.MinInt64, math.MaxInt64}, {0, math.MinInt64}} {
		if m, ok := At(x[0], x[1]); m != 0 || ok {
			t.Errorf("At(%d, %d) = %d, %v", x[0], x[1], m, ok)
		}
	}
}
