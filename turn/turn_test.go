package turn

import (
	"math"
	"math/big"
	"math/rand"
	"testing"

	"aneroid/api"
)

// reference computes as the chapter says, with big integers only.
type reference struct{ c, s [14]*big.Int }

func one() *big.Int { return big.NewInt(api.One) }

func mul(a, b *big.Int) *big.Int { return new(big.Int).Mul(a, b) }

func newReference() *reference {
	r := &reference{}
	square := mul(one(), one())
	r.c[13] = new(big.Int).Rsh(square, 1)
	r.c[13].Sqrt(r.c[13])
	r.s[13] = new(big.Int).Quo(square, new(big.Int).Lsh(r.c[13], 1))
	for k := 12; k >= 0; k-- {
		r.c[k] = new(big.Int).Add(square, mul(one(), r.c[k+1]))
		r.c[k].Rsh(r.c[k], 1).Sqrt(r.c[k])
		r.s[k] = new(big.Int).Quo(mul(one(), r.s[k+1]), new(big.Int).Lsh(r.c[k], 1))
	}
	return r
}

func (r *reference) rotate(x, y *big.Int, k int, back bool) (*big.Int, *big.Int) {
	s := r.s[k]
	if back {
		s = new(big.Int).Neg(s)
	}
	nx := new(big.Int).Sub(mul(x, r.c[k]), mul(y, s))
	ny := new(big.Int).Add(mul(x, s), mul(y, r.c[k]))
	return nx.Quo(nx, one()), ny.Quo(ny, one())
}

func (r *reference) at(a int) (*big.Int, *big.Int) {
	x, y := one(), big.NewInt(0)
	if a&32768 != 0 {
		x.Neg(x)
		y.Neg(y)
	}
	if a&16384 != 0 {
		x, y = new(big.Int).Neg(y), x
	}
	for k := 13; k >= 0; k-- {
		if a&(1<<k) != 0 {
			x, y = r.rotate(x, y, k, false)
		}
	}
	return x, y
}

func (r *reference) angle(x, y int64) uint16 {
	clip := func(n int64) *big.Int { return big.NewInt(min(max(n, -api.One), api.One)) }
	px, py := clip(x), clip(y)
	if px.Sign() == 0 && py.Sign() == 0 {
		return 0
	}
	angle := 0
	if py.Sign() < 0 {
		px.Neg(px)
		py.Neg(py)
		angle += 32768
	}
	if px.Sign() < 0 {
		px, py = py, px.Neg(px)
		angle += 16384
	}
	for k := 13; k >= 0; k-- {
		nx, ny := r.rotate(px, py, k, true)
		if ny.Sign() >= 0 {
			px, py = nx, ny
			angle += 1 << k
		}
	}
	return uint16(angle)
}

// Promise 4.1.
func TestSteps(t *testing.T) {
	var turner Turner
	ref := newReference()
	c, s := turner.Steps()
	if len(c) != 14 || len(s) != 14 {
		t.Fatalf("%d and %d steps", len(c), len(s))
	}
	for k := range c {
		if c[k] != ref.c[k].Int64() || s[k] != ref.s[k].Int64() {
			t.Errorf("step %d is %d, %d, want %v, %v", k, c[k], s[k], ref.c[k], ref.s[k])
		}
		if math.Abs(float64(c[k])/api.One-math.Cos(math.Pi*float64(int(1)<<k)/32768)) > 1e-7 {
			t.Errorf("the cosine of step %d is %d", k, c[k])
		}
	}
	c[0], s[0] = 1, 2
	if again, also := turner.Steps(); again[0] == 1 || also[0] == 2 {
		t.Error("Steps hands out its own memory")
	}
}

// Promises 4.1 and 4.3.
func TestAt(t *testing.T) {
	var turner Turner
	ref := newReference()
	for a := 0; a < 65536; a++ {
		cos, sin := turner.At(uint16(a))
		if a%7 == 0 || a&(a-1) == 0 {
			x, y := ref.at(a)
			if cos != x.Int64() || sin != y.Int64() {
				t.Fatalf("At(%d) = %d, %d, want %v, %v", a, cos, sin, x, y)
			}
		}
		nextCos, nextSin := turner.At(uint16(a + 16384))
		if nextCos != -sin || nextSin != cos {
			t.Fatalf("a quarter turn after %d", a)
		}
		if off := cos*cos + sin*sin - api.One*api.One; off <= -1024*api.One || off >= 1024*api.One {
			t.Fatalf("the length at %d is off by %d", a, off)
		}
		if d := int16(turner.Angle(cos, sin) - uint16(a)); d < -2 || d > 2 {
			t.Fatalf("Angle at %d is off by %d", a, d)
		}
		if cos > api.One || cos < -api.One || sin > api.One || sin < -api.One {
			t.Fatalf("At(%d) is beyond One", a)
		}
	}
	if c, s := turner.At(16384); c != 0 || s != api.One {
		t.Error("At(16384)")
	}
	if c, s := turner.At(32768); c != -api.One || s != 0 {
		t.Error("At(32768)")
	}
}

// Promise 4.2.
func TestPoint(t *testing.T) {
	var turner Turner
	for _, length := range []int64{math.MinInt64, -api.Max - 1, -api.Max, -7, -1, 0, 1, 5, 100000, api.One, api.Max, api.Max + 1, math.MaxInt64} {
		for a := 0; a < 65536; a += 37 {
			cos, sin := turner.At(uint16(a))
			clipped := big.NewInt(min(max(length, -api.Max), api.Max))
			wantX := mul(big.NewInt(cos), clipped)
			wantY := mul(big.NewInt(sin), clipped)
			wantX.Quo(wantX, one())
			wantY.Quo(wantY, one())
			if x, y := turner.Point(uint16(a), length); x != wantX.Int64() || y != wantY.Int64() {
				t.Fatalf("Point(%d, %d) = %d, %d, want %v, %v", a, length, x, y, wantX, wantY)
			}
		}
	}
}

// Promise 4.2.
func TestAngle(t *testing.T) {
	var turner Turner
	ref := newReference()
	samples := []int64{math.MinInt64, -api.One - 1, -api.One, -1 << 20, -5, -1, 0, 1, 2, 3, 1 << 16, api.One - 1, api.One, api.One + 1, math.MaxInt64}
	random := rand.New(rand.NewSource(1))
	for range 60 {
		samples = append(samples, int64(random.Uint64())>>random.Intn(64))
	}
	for _, x := range samples {
		for _, y := range samples {
			if got, want := turner.Angle(x, y), ref.angle(x, y); got != want {
				t.Fatalf("Angle(%d, %d) = %d, want %d", x, y, got, want)
			}
		}
	}
	if turner.Angle(0, 0) != 0 || turner.Angle(-1<<50, 0) != turner.Angle(-api.One, 0) {
		t.Error("Angle at the origin or beyond One")
	}
}

// A zero Turner is ready to use, whichever method comes first.
func TestZero(t *testing.T) {
	var used, first, second, third Turner
	used.Steps()
	wantCos, wantSin := used.At(12345)
	if c, s := first.At(12345); c != wantCos || s != wantSin {
		t.Error("At of a zero Turner")
	}
	wantX, wantY := used.Point(12345, 1000)
	if x, y := second.Point(12345, 1000); x != wantX || y != wantY {
		t.Error("Point of a zero Turner")
	}
	if third.Angle(77, 99) != used.Angle(77, 99) {
		t.Error("Angle of a zero Turner")
	}
}

func TestNil(t *testing.T) {
	var none *Turner
	if c, s := none.Steps(); len(c) != 0 || len(s) != 0 {
		t.Error("Steps of nil")
	}
	if c, s := none.At(5); c != 0 || s != 0 {
		t.Error("At of nil")
	}
	if x, y := none.Point(5, 100); x != 0 || y != 0 {
		t.Error("Point of nil")
	}
	if none.Angle(1, 1) != 0 {
		t.Error("Angle of nil")
	}
}
