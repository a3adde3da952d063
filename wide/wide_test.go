package wide

import (
	"math"
	"math/big"
	"math/rand"
	"testing"

	"aneroid/api"
)

var samples = []int64{
	math.MinInt64, math.MinInt64 + 1, -1 << 62, -api.Max - 1, -api.Max, -1 << 32, -1000, -7, -3, -2, -1,
	0, 1, 2, 3, 5, 7, 1000, 1 << 30, 1 << 32, api.Max - 1, api.Max, api.Max + 1, 1 << 62, math.MaxInt64 - 1, math.MaxInt64,
}

func product(a, b int64) *big.Int {
	return new(big.Int).Mul(big.NewInt(a), big.NewInt(b))
}

// floorBig divides exactly and rounds down, for any signs.
func floorBig(n, d *big.Int) *big.Int {
	if d.Sign() < 0 {
		n, d = new(big.Int).Neg(n), new(big.Int).Neg(d)
	}
	return new(big.Int).Div(n, d) // Euclidean; for d > 0 it rounds down
}

func bounded(n *big.Int) (int64, bool) {
	if n.CmpAbs(big.NewInt(api.Max)) > 0 {
		return 0, false
	}
	return n.Int64(), true
}

func check(t *testing.T, a, b, c int64) {
	t.Helper()
	if c == 0 {
		for _, f := range []func(a, b, c int64) (int64, bool){Floor, Near, Trunc} {
			if n, ok := f(a, b, c); n != 0 || ok {
				t.Errorf("division by 0 of %d * %d gives %d, %v", a, b, n, ok)
			}
		}
		if Fit(a, b, c) != 0 {
			t.Errorf("Fit(%d, %d, 0) is not 0", a, b)
		}
		return
	}
	p, d := product(a, b), big.NewInt(c)
	floor := floorBig(p, d)
	// The nearest integer, halves up: (2 p + c) / (2 c), rounded down.
	near := floorBig(new(big.Int).Add(new(big.Int).Lsh(p, 1), d), new(big.Int).Lsh(d, 1))
	trunc := new(big.Int).Quo(p, d)
	for _, x := range []struct {
		name string
		f    func(a, b, c int64) (int64, bool)
		want *big.Int
	}{{"Floor", Floor, floor}, {"Near", Near, near}, {"Trunc", Trunc, trunc}} {
		want, wantOK := bounded(x.want)
		if n, ok := x.f(a, b, c); n != want || ok != wantOK {
			t.Errorf("%s(%d, %d, %d) = %d, %v, want %d, %v", x.name, a, b, c, n, ok, want, wantOK)
		}
	}
	fit, ok := bounded(floor)
	if !ok {
		fit = api.Max * int64(p.Sign()*d.Sign())
	}
	if n := Fit(a, b, c); n != fit {
		t.Errorf("Fit(%d, %d, %d) = %d, want %d", a, b, c, n, fit)
	}
	// Promise 2.3: the quotient times c plus the remainder is the product.
	if n, ok := Floor(a, b, c); ok {
		rest := new(big.Int).Sub(p, product(n, c))
		if rest.Sign() != 0 && (rest.Sign() != d.Sign() || rest.CmpAbs(d) >= 0) {
			t.Errorf("the remainder of Floor(%d, %d, %d) is %v", a, b, c, rest)
		}
	}
}

// Promises 2.1, 2.2 and 2.3.
func TestSamples(t *testing.T) {
	for _, a := range samples {
		for _, b := range samples {
			for _, c := range samples {
				check(t, a, b, c)
			}
		}
	}
}

func TestRandom(t *testing.T) {
	r := rand.New(rand.NewSource(2))
	draw := func() int64 { return int64(r.Uint64()) >> r.Intn(64) }
	for range 200000 {
		check(t, draw(), draw(), draw())
	}
}

// Halves and results next to the bounds.
func TestEdges(t *testing.T) {
	for _, n := range []int64{api.Max - 1, api.Max, api.Max + 1} {
		for _, sign := range []int64{-1, 1} {
			for rest := int64(-3); rest <= 3; rest++ {
				for _, c := range []int64{-4, -3, -2, 2, 3, 4} {
					check(t, sign, n*c+rest, c)
				}
			}
		}
	}
}

func TestExamples(t *testing.T) {
	for _, x := range []struct {
		f    func(a, b, c int64) (int64, bool)
		want int64
	}{{Floor, -11}, {Near, -10}, {Trunc, -10}} {
		if n, ok := x.f(7, -3, 2); n != x.want || !ok {
			t.Errorf("7 * -3 / 2 = %d, %v, want %d", n, ok, x.want)
		}
	}
}
