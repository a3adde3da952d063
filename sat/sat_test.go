package sat

import (
	"math"
	"math/big"
	"testing"

	"aneroid/api"
)

var samples = []int64{
	math.MinInt64, math.MinInt64 + 1, -api.Max - 2, -api.Max - 1, -api.Max, -api.Max + 1,
	-1 << 39, -7, -1, 0, 1, 5, 1 << 39, api.Max - 1, api.Max, api.Max + 1, api.Max + 2,
	math.MaxInt64 - 1, math.MaxInt64,
}

// clipBig clips exactly, without the package under test.
func clipBig(n *big.Int) (int64, bool) {
	bound := big.NewInt(api.Max)
	if n.Cmp(bound) > 0 {
		return api.Max, true
	}
	if n.Cmp(new(big.Int).Neg(bound)) < 0 {
		return -api.Max, true
	}
	return n.Int64(), false
}

// Promise 1.1.
func TestClip(t *testing.T) {
	for _, n := range samples {
		want, outside := clipBig(big.NewInt(n))
		if got, out := Clip(n); got != want || out != outside {
			t.Errorf("Clip(%d) = %d, %v, want %d, %v", n, got, out, want, outside)
		}
	}
}

// Promise 1.2: results and the flag, for a Unit and for a nil one.
func TestOneArgument(t *testing.T) {
	for _, n := range samples {
		clipped, outside := clipBig(big.NewInt(n))
		magnitude := clipped
		if magnitude < 0 {
			magnitude = -magnitude
		}
		for _, c := range []struct {
			name string
			call func(*Unit) int64
			want int64
		}{
			{"Put", func(u *Unit) int64 { return u.Put(n) }, clipped},
			{"Neg", func(u *Unit) int64 { return u.Neg(n) }, -clipped},
			{"Abs", func(u *Unit) int64 { return u.Abs(n) }, magnitude},
		} {
			var u Unit
			if got := c.call(&u); got != c.want || u.Over() != outside {
				t.Errorf("%s(%d) = %d, over %v, want %d, %v", c.name, n, got, u.Over(), c.want, outside)
			}
			if got := c.call(nil); got != c.want {
				t.Errorf("nil %s(%d) = %d, want %d", c.name, n, got, c.want)
			}
		}
	}
}

// Promises 1.2 and 1.3: exact results, clipped.
func TestTwoArguments(t *testing.T) {
	for _, a := range samples {
		for _, b := range samples {
			ca, outA := clipBig(big.NewInt(a))
			cb, outB := clipBig(big.NewInt(b))
			sum, outSum := clipBig(new(big.Int).Add(big.NewInt(ca), big.NewInt(cb)))
			diff, outDiff := clipBig(new(big.Int).Sub(big.NewInt(ca), big.NewInt(cb)))
			var u, v Unit
			if got := u.Add(a, b); got != sum || u.Over() != (outA || outB || outSum) {
				t.Errorf("Add(%d, %d) = %d, over %v, want %d", a, b, got, u.Over(), sum)
			}
			if got := v.Sub(a, b); got != diff || v.Over() != (outA || outB || outDiff) {
				t.Errorf("Sub(%d, %d) = %d, over %v, want %d", a, b, got, v.Over(), diff)
			}
			var none *Unit
			if none.Add(a, b) != sum || none.Sub(a, b) != diff {
				t.Errorf("nil Unit with %d, %d differs", a, b)
			}
		}
	}
}

// Promise 1.2: Sum saturates at each addition, in order.
func TestSum(t *testing.T) {
	var u Unit
	if u.Sum() != 0 || u.Sum(3, -5, 9) != 7 || u.Over() {
		t.Error("Sum of small numbers")
	}
	if got := u.Sum(api.Max, 5, -5); got != api.Max-5 || !u.Over() {
		t.Errorf("Sum(Max, 5, -5) = %d, over %v", got, u.Over())
	}
	u.Clear()
	if got := u.Sum(5, -5, api.Max); got != api.Max || u.Over() {
		t.Errorf("Sum(5, -5, Max) = %d, over %v", got, u.Over())
	}
	if got := u.Sum(math.MinInt64, math.MinInt64, 1); got != -api.Max+1 || !u.Over() {
		t.Errorf("Sum at the lower bound = %d", got)
	}
	list := []int64{1, 2}
	if u.Sum(list...) != 3 || list[0] != 1 || list[1] != 2 {
		t.Error("Sum changed its arguments")
	}
}

// Promise 1.2: the flag stays until Clear.
func TestOver(t *testing.T) {
	var u Unit
	if u.Over() {
		t.Error("a zero Unit is over")
	}
	u.Add(api.Max, 1)
	u.Add(1, 1)
	if !u.Over() {
		t.Error("the flag was lost")
	}
	u.Clear()
	if u.Over() {
		t.Error("Clear did not reset the flag")
	}
	var none *Unit
	none.Add(api.Max, 1)
	none.Clear()
	if none.Over() || none.Sum(api.Max, 1) != api.Max {
		t.Error("nil Unit")
	}
}
