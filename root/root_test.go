package root

import (
	"math"
	"math/big"
	"math/rand"
	"testing"

	"aneroid/api"
)

func bigWide(hi, lo uint64) *big.Int {
	n := new(big.Int).SetUint64(hi)
	return n.Lsh(n, 64).Add(n, new(big.Int).SetUint64(lo))
}

func checkWide(t *testing.T, hi, lo uint64) {
	t.Helper()
	want := new(big.Int).Sqrt(bigWide(hi, lo))
	if got := Wide(hi, lo); !want.IsUint64() || got != want.Uint64() {
		t.Errorf("Wide(%d, %d) = %d, want %v", hi, lo, got, want)
	}
}

func checkSqrt(t *testing.T, n uint64) {
	t.Helper()
	want := new(big.Int).Sqrt(bigWide(0, n)).Uint64()
	if got := Sqrt(n); got != want {
		t.Errorf("Sqrt(%d) = %d, want %d", n, got, want)
	}
	if got := Square(n); got != (want*want == n) {
		t.Errorf("Square(%d) = %v", n, got)
	}
	if int64(n) >= 0 && Of(int64(n)) != int64(want) {
		t.Errorf("Of(%d) = %d, want %d", n, Of(int64(n)), want)
	}
	checkWide(t, 0, n)
}

// Promises 3.1 and 3.3.
func TestSqrt(t *testing.T) {
	for n := uint64(0); n < 5000; n++ {
		checkSqrt(t, n)
		if n > 0 && Sqrt(n) < Sqrt(n-1) {
			t.Errorf("Sqrt is not monotone at %d", n)
		}
	}
	for _, r := range []uint64{1, 99, 65535, 65536, 1 << 20, 1<<31 - 1, 1 << 31, 1<<32 - 2, 1<<32 - 1} {
		checkSqrt(t, r*r-1)
		checkSqrt(t, r*r)
		checkSqrt(t, r*r+1)
	}
	for _, n := range []uint64{1<<63 - 1, 1 << 63, math.MaxUint64 - 1, math.MaxUint64} {
		checkSqrt(t, n)
	}
	random := rand.New(rand.NewSource(3))
	for range 20000 {
		checkSqrt(t, random.Uint64()>>random.Intn(64))
	}
}

func TestOfNegative(t *testing.T) {
	for _, n := range []int64{-1, -100, math.MinInt64} {
		if Of(n) != 0 {
			t.Errorf("Of(%d) = %d", n, Of(n))
		}
	}
}

func TestWide(t *testing.T) {
	for _, hi := range []uint64{0, 1, 2, 3, 4, 1<<32 - 1, 1 << 62, 1 << 63, math.MaxUint64 - 1, math.MaxUint64} {
		for _, lo := range []uint64{0, 1, 1 << 63, math.MaxUint64 - 1, math.MaxUint64} {
			checkWide(t, hi, lo)
		}
	}
	random := rand.New(rand.NewSource(4))
	for range 20000 {
		checkWide(t, random.Uint64()>>random.Intn(64), random.Uint64())
		r := random.Uint64()>>random.Intn(33) | 1
		square := new(big.Int).Mul(bigWide(0, r), bigWide(0, r))
		for d := int64(-1); d <= 1; d++ {
			n := new(big.Int).Add(square, big.NewInt(d))
			lo := new(big.Int).And(n, bigWide(0, math.MaxUint64)).Uint64()
			checkWide(t, new(big.Int).Rsh(n, 64).Uint64(), lo)
		}
	}
	if Wide(1, 0) != 4294967296 || Sqrt(99) != 9 {
		t.Error("the examples of the chapter")
	}
}

// Promise 3.2.
func TestHypot(t *testing.T) {
	clip := func(n int64) int64 { return min(max(n, -api.Max), api.Max) }
	samples := []int64{math.MinInt64, -api.Max - 1, -api.Max, -1 << 32, -4, -1, 0, 1, 3, 5, 12, 1 << 31, api.Max - 1, api.Max, api.Max + 1, math.MaxInt64}
	random := rand.New(rand.NewSource(5))
	for range 60 {
		samples = append(samples, int64(random.Uint64())>>random.Intn(60))
	}
	for _, a := range samples {
		for _, b := range samples {
			x, y := big.NewInt(clip(a)), big.NewInt(clip(b))
			sum := new(big.Int).Add(new(big.Int).Mul(x, x), new(big.Int).Mul(y, y))
			if got, want := Hypot(a, b), sum.Sqrt(sum).Int64(); got != want {
				t.Errorf("Hypot(%d, %d) = %d, want %d", a, b, got, want)
			}
		}
	}
	if Hypot(3, -4) != 5 {
		t.Error("Hypot(3, -4)")
	}
}
