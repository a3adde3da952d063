package word

import (
	"math"
	"math/big"
	"math/bits"
	"math/rand"
	"testing"

	"aneroid/api"
)

func good() []api.Label {
	l := []api.Label{
		{Number: 0, Bits: 1, Scale: 1}, {Number: 255, Bits: 18, Scale: 1 << 30, Signed: true},
		{Number: 131, Bits: 18, Scale: 16, Signed: true}, {Number: 133, Bits: 15, Scale: 1},
		{Number: 7, Bits: 1, Scale: 3, Signed: true}, {Number: 8, Bits: 18, Scale: 7},
	}
	for b := 1; b <= 18; b++ {
		l = append(l, api.Label{Number: b, Bits: b, Scale: int64(b * 5), Signed: b%2 == 0})
	}
	return l
}

var bad = []api.Label{
	{}, {Number: -1, Bits: 1, Scale: 1}, {Number: 256, Bits: 1, Scale: 1}, {Bits: 0, Scale: 1}, {Bits: 19, Scale: 1},
	{Bits: -5, Scale: 1}, {Bits: 5, Scale: 0}, {Bits: 5, Scale: -1}, {Bits: 5, Scale: 1<<30 + 1}, {Bits: 5, Scale: math.MinInt64},
	{Number: math.MinInt, Bits: math.MaxInt, Scale: math.MaxInt64},
}

func limits(l api.Label) (int64, int64) {
	if l.Signed {
		return -1 << l.Bits, 1<<l.Bits - 1
	}
	return 0, 1<<l.Bits - 1
}

// reference returns the word of the definition, and whether q was clipped.
func reference(l api.Label, source int, v int64, state int) (uint32, bool) {
	v = min(max(v, -1<<38), 1<<38)
	exact := new(big.Int).Div(big.NewInt(v+l.Scale/2), big.NewInt(l.Scale)).Int64()
	low, high := limits(l)
	q := min(max(exact, low), high)
	field := uint64(q*(1<<(18-l.Bits))) % (1 << 19)
	w := uint64(l.Number) + uint64(source)*(1<<8) + field*(1<<10) + uint64(state)*(1<<29)
	if bits.OnesCount64(w)%2 == 0 {
		w += 1 << 31
	}
	return uint32(w), q != exact
}

func numbers(l api.Label) []int64 {
	low, high := limits(l)
	list := []int64{math.MinInt64, math.MaxInt64, -1 << 38, 1 << 38, 1<<38 + 1, -1, 0, 1}
	for _, q := range []int64{low - 1, low, low + 1, -1, 0, 1, high - 1, high, high + 1} {
		list = append(list, q*l.Scale, q*l.Scale-l.Scale/2-1, q*l.Scale-l.Scale/2, q*l.Scale+l.Scale/2, q*l.Scale+(l.Scale+1)/2)
	}
	r := rand.New(rand.NewSource(28))
	for range 200 {
		list = append(list, (low+r.Int63n(high-low+1))*l.Scale+r.Int63n(l.Scale))
	}
	return list
}

// Promises 28.1, 28.2, 28.3 and 28.4.
func TestPutAndTake(t *testing.T) {
	for _, l := range good() {
		low, high := limits(l)
		if a, b, ok := Range(l); !Right(l) || a != low*l.Scale || b != high*l.Scale || !ok {
			t.Errorf("Range(%v) = %d, %d, %v", l, a, b, ok)
		}
		for i, v := range numbers(l) {
			source, state := i%4, i/4%4
			w, clipped, e := Put(l, source, v, state)
			want, wantClipped := reference(l, source, v, state)
			if w != want || clipped != wantClipped || e != api.OK || !Odd(w) {
				t.Fatalf("Put(%v, %d, %d, %d) = %x, %v, %d, want %x, %v", l, source, v, state, w, clipped, e, want, wantClipped)
			}
			back, s, st, e := Take(l, w)
			if e != api.OK || s != source || st != state {
				t.Fatalf("Take(%v, %x) = %d, %d, %d, %d", l, w, back, s, st, e)
			}
			// Only a number that was not clipped itself can be recovered.
			if !clipped && v >= -1<<38 && v <= 1<<38 && max(back-v, v-back)*2 > l.Scale {
				t.Fatalf("Take(Put(%v, %d)) = %d", l, v, back)
			}
			for bit := range 32 {
				if _, _, _, e := Take(l, w^1<<bit); e != api.ErrSum {
					t.Fatalf("a changed bit %d gives %d", bit, e)
				}
			}
		}
	}
}

// Promise 28.1.
func TestParity(t *testing.T) {
	r := rand.New(rand.NewSource(1))
	for i := range 2000 {
		w := r.Uint32()
		if i < 10 {
			w = uint32(i)
		}
		if Odd(w) != (bits.OnesCount32(w)&1 == 1) {
			t.Errorf("Odd(%x)", w)
		}
		if p := Parity(w); !Odd(p) || p<<1 != w<<1 {
			t.Errorf("Parity(%x) = %x", w, p)
		}
	}
	if Parity(0) != 1<<31 || Parity(1<<31) != 1<<31 || Parity(1) != 1 || Parity(1<<31|1) != 1 {
		t.Error("Parity of small words")
	}
}

// Promises 28.1, 28.2 and 28.3: the errors and their order.
func TestErrors(t *testing.T) {
	for _, l := range bad {
		if a, b, ok := Range(l); Right(l) || a != 0 || b != 0 || ok {
			t.Errorf("%v is not valid", l)
		}
		if w, c, e := Put(l, 9, 0, 9); w != 0 || c || e != api.ErrArg {
			t.Errorf("Put(%v) returns %d", l, e)
		}
		if v, s, st, e := Take(l, 0); v != 0 || s != 0 || st != 0 || e != api.ErrArg {
			t.Errorf("Take(%v) returns %d", l, e)
		}
	}
	l := api.Label{Number: 5, Bits: 10, Scale: 2}
	for _, x := range [][2]int{{-1, 0}, {4, 0}, {0, -1}, {0, 4}, {math.MinInt, math.MaxInt}} {
		if w, c, e := Put(l, x[0], 1<<30, x[1]); w != 0 || c || e != api.ErrRange {
			t.Errorf("Put with %v returns %d", x, e)
		}
	}
	signed := l
	signed.Signed = true
	for _, x := range []struct {
		l api.Label
		w uint32
		e api.Errno
	}{
		{l, 5 | 1<<10 | 1<<11, api.ErrForm},
		{l, 6, api.ErrSum},
		{l, Parity(6), api.ErrNone},
		{l, Parity(6 | 1<<10), api.ErrNone},
		{l, Parity(5), api.OK},
		{l, Parity(5 | 1<<10), api.ErrForm},
		{l, Parity(5 | 1<<17), api.ErrForm},
		{l, Parity(5 | 1<<18), api.OK},
		{l, Parity(5 | 1<<27), api.OK},
		{l, Parity(5 | 1<<28), api.ErrForm},
		{signed, Parity(5 | 1<<28), api.OK},
		{signed, Parity(5 | 1<<28 | 1<<17), api.ErrForm},
	} {
		want := x.e
		if !Odd(x.w) {
			want = api.ErrSum
		}
		v, s, st, e := Take(x.l, x.w)
		if e != want || e != api.OK && (v != 0 || s != 0 || st != 0) {
			t.Errorf("Take(%v, %x) = %d, %d, want %d", x.l, x.w, v, e, want)
		}
	}
	if v, _, _, _ := Take(signed, Parity(5|1<<28)); v != -1024*2 {
		t.Errorf("the smallest number is %d", v)
	}
}
