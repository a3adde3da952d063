package matrix

import (
	"math"
	"math/big"
	"math/rand"
	"testing"

	"aneroid/api"
)

func clipped(n int64) int64 { return min(max(n, -api.Max), api.Max) }

// times is the product of two numbers with big integers.
func times(a, b int64) int64 {
	n := new(big.Int).Mul(big.NewInt(clipped(a)), big.NewInt(clipped(b)))
	n.Rsh(n, 20) // rounds down
	if n.CmpAbs(big.NewInt(api.Max)) > 0 {
		return api.Max * int64(n.Sign())
	}
	return n.Int64()
}

func dot(a, b [3]int64) int64 {
	return clipped(times(a[0], b[0]) + times(a[1], b[1]) + times(a[2], b[2]))
}

func draw(r *rand.Rand) int64 {
	if r.Intn(20) == 0 {
		return []int64{math.MinInt64, math.MaxInt64, -api.Max - 1, -api.Max, api.Max, api.Max + 1, 1 << 50, 0, Whole, -Whole}[r.Intn(10)]
	}
	return int64(r.Uint64()) >> (23 + r.Intn(40))
}

func vector(r *rand.Rand) Vector { return Vector{draw(r), draw(r), draw(r)} }

func square(r *rand.Rand) Matrix { return Matrix{vector(r), vector(r), vector(r)} }

// Promises 40.1, 40.2 and 40.3.
func TestAll(t *testing.T) {
	r := rand.New(rand.NewSource(40))
	for range 3000 {
		a, b, v, w, n := square(r), square(r), vector(r), vector(r), draw(r)
		add, sub, mul, scale, turn, outer, mirror, diagonal := Add(a, b), Sub(a, b), Mul(a, b), Scale(a, n), Turn(a), Outer(v, w), Mirror(a), Diagonal(v)
		apply, plus := Apply(a, v), Plus(v, w)
		symmetric := true
		for i := range 3 {
			for j := range 3 {
				x, y := clipped(a[i][j]), clipped(b[i][j])
				symmetric = symmetric && a[i][j] == a[j][i]
				onDiagonal := int64(0)
				if i == j {
					onDiagonal = v[i]
				}
				want := a[i][j]
				if i > j {
					want = a[j][i]
				}
				for name, pair := range map[string][2]int64{
					"Add":      {add[i][j], clipped(x + y)},
					"Sub":      {sub[i][j], clipped(x - y)},
					"Mul":      {mul[i][j], dot(a[i], [3]int64{b[0][j], b[1][j], b[2][j]})},
					"Scale":    {scale[i][j], times(a[i][j], n)},
					"Turn":     {turn[i][j], a[j][i]},
					"Outer":    {outer[i][j], times(v[i], w[j])},
					"Mirror":   {mirror[i][j], want},
					"Diagonal": {diagonal[i][j], onDiagonal},
				} {
					if pair[0] != pair[1] {
						t.Fatalf("%s of %v, %v, %v, %v, %d at %d, %d is %d, want %d", name, a, b, v, w, n, i, j, pair[0], pair[1])
					}
				}
			}
			if apply[i] != dot(a[i], v) || plus[i] != clipped(clipped(v[i])+clipped(w[i])) {
				t.Fatalf("Apply(%v, %v) = %v, Plus = %v", a, v, apply, plus)
			}
		}
		if Dot(v, w) != dot(v, w) {
			t.Fatalf("Dot(%v, %v) = %d", v, w, Dot(v, w))
		}
		det := dot(a[0], [3]int64{
			clipped(times(a[1][1], a[2][2]) - times(a[1][2], a[2][1])),
			clipped(times(a[1][2], a[2][0]) - times(a[1][0], a[2][2])),
			clipped(times(a[1][0], a[2][1]) - times(a[1][1], a[2][0])),
		})
		if Det(a) != det {
			t.Fatalf("Det(%v) = %d, want %d", a, Det(a), det)
		}
		if Symmetric(a) != symmetric || !Symmetric(mirror) || Symmetric(mirror) != (mirror == Turn(mirror)) {
			t.Fatalf("Symmetric(%v)", a)
		}
	}
}

// Promise 40.4.
func TestConsequences(t *testing.T) {
	r := rand.New(rand.NewSource(41))
	for range 1000 {
		a, b := square(r), square(r)
		inside := a
		for i := range 3 {
			for j := range 3 {
				inside[i][j] = clipped(a[i][j])
			}
		}
		if Mul(inside, Unit()) != inside || Mul(Unit(), inside) != inside {
			t.Fatalf("the unit matrix changes %v", inside)
		}
		if Turn(Mul(a, b)) != Mul(Turn(b), Turn(a)) {
			t.Fatal("the transposed product")
		}
	}
	if Unit() != (Matrix{{Whole, 0, 0}, {0, Whole, 0}, {0, 0, Whole}}) {
		t.Error("Unit")
	}
	if Dot(Vector{2 * Whole}, Vector{3 * Whole}) != 6*Whole {
		t.Error("the example")
	}
	if Det(Matrix{{2 * Whole, 0, Whole}, {0, 3 * Whole, 0}, {Whole, 0, 5 * Whole}}) != 27*Whole {
		t.Error("Det of a small matrix")
	}
	// The sum is clipped only at its end.
	big := Vector{api.Max, api.Max, -api.Max}
	if Dot(big, Vector{Whole, Whole, Whole}) != api.Max {
		t.Error("Dot clips intermediate sums")
	}
	far := Matrix{{math.MaxInt64}}
	if Turn(far) != far || Mirror(far) != far || Diagonal(Vector{math.MaxInt64}) != far || !Symmetric(far) {
		t.Error("Turn, Mirror and Diagonal clip")
	}
}
