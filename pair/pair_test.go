package pair

import (
	"math"
	"math/big"
	"testing"

	"aneroid/api"
)

const limit = 1<<39 - 1

var samples = []int64{math.MinInt64, -limit - 1, -limit, -limit + 1, -8, -7, -1, 0, 1, 2, 5, 9, limit - 1, limit, limit + 1, math.MaxInt64}

func clipped(n int64) int64 { return min(max(n, -limit), limit) }

// Promises 21.1 and 21.3.
func TestApartAndMean(t *testing.T) {
	for _, a := range samples {
		for _, b := range samples {
			ca, cb := clipped(a), clipped(b)
			apart := max(ca, cb) - min(ca, cb)
			if Apart(a, b) != apart {
				t.Errorf("Apart(%d, %d) = %d", a, b, Apart(a, b))
			}
			want := new(big.Int).Div(big.NewInt(ca+cb), big.NewInt(2)).Int64()
			m := Mean(a, b)
			if m != want || m != Mean(b, a) {
				t.Errorf("Mean(%d, %d) = %d, want %d", a, b, m, want)
			}
			if m < min(ca, cb) || m > max(ca, cb) || max(ca, cb)-m > (apart+1)/2 || m-min(ca, cb) > (apart+1)/2 {
				t.Errorf("Mean(%d, %d) = %d is not between", a, b, m)
			}
		}
	}
}

// Promises 21.1 and 21.3.
func TestVerdict(t *testing.T) {
	swapped := map[int]int{Agree: Agree, Differ: Differ, NoFirst: NoSecond, NoSecond: NoFirst, Neither: Neither}
	for _, x := range []struct {
		a, b api.Reading
		tau  int64
		want int
	}{
		{api.Reading{Value: 5}, api.Reading{Value: 9}, 3, Differ},
		{api.Reading{Value: 5}, api.Reading{Value: 9}, 4, Agree},
		{api.Reading{Value: 5}, api.Reading{Value: 5}, 0, Agree},
		{api.Reading{Value: 5}, api.Reading{Value: 5}, -1, Differ},
		{api.Reading{Value: 5}, api.Reading{Value: 6}, math.MinInt64, Differ},
		{api.Reading{Value: math.MinInt64}, api.Reading{Value: math.MaxInt64}, 2*limit - 1, Differ},
		{api.Reading{Value: math.MinInt64}, api.Reading{Value: math.MaxInt64}, 2 * limit, Agree},
		{api.Reading{Value: limit}, api.Reading{Value: math.MaxInt64}, 0, Agree},
		{api.Reading{Err: api.ErrSum}, api.Reading{Value: 9}, 3, NoFirst},
		{api.Reading{Value: 9}, api.Reading{Value: 900, Err: api.ErrNone}, 3, NoSecond},
		{api.Reading{Err: api.ErrStale}, api.Reading{Err: api.ErrNone}, 3, Neither},
	} {
		if v := Verdict(x.a, x.b, x.tau); v != x.want {
			t.Errorf("Verdict(%v, %v, %d) = %d, want %d", x.a, x.b, x.tau, v, x.want)
		}
		if v := Verdict(x.b, x.a, x.tau); v != swapped[x.want] {
			t.Errorf("Verdict(%v, %v, %d) = %d, want %d", x.b, x.a, x.tau, v, swapped[x.want])
		}
	}
	if Agree != 0 || Differ != 1 || NoFirst != 2 || NoSecond != 3 || Neither != 4 || Mean(5, 9) != 7 {
		t.Error("the constants or the example")
	}
}

// Promise 21.2.
func TestPair(t *testing.T) {
	for _, tau := range []int64{-1, limit + 1, math.MinInt64, math.MaxInt64} {
		if p, e := New(tau); p != nil || e != api.ErrRange {
			t.Errorf("New(%d) returns %d", tau, e)
		}
	}
	for _, tau := range []int64{0, limit} {
		if p, e := New(tau); p == nil || e != api.OK {
			t.Errorf("New(%d) returns %d", tau, e)
		}
	}
	p, _ := New(10)
	for round := range 2 {
		for i, x := range []struct {
			a, b    api.Reading
			verdict int
			run     int
			worst   int64
		}{
			{api.Reading{Value: 5}, api.Reading{Value: 8}, Agree, 0, 3},
			{api.Reading{Value: 5}, api.Reading{Value: 16}, Differ, 1, 11},
			{api.Reading{Value: 30}, api.Reading{Value: 5}, Differ, 2, 25},
			{api.Reading{Value: 30}, api.Reading{Value: 19}, Differ, 3, 25},
			{api.Reading{Value: 900, Err: api.ErrSum}, api.Reading{}, NoFirst, 0, 25},
			{api.Reading{}, api.Reading{Value: 11}, Differ, 1, 25},
			{api.Reading{}, api.Reading{Value: 900, Err: api.ErrSum}, NoSecond, 0, 25},
			{api.Reading{}, api.Reading{Value: 50}, Differ, 1, 50},
			{api.Reading{Err: api.ErrSum}, api.Reading{Value: 900, Err: api.ErrSum}, Neither, 0, 50},
			{api.Reading{}, api.Reading{Value: 50}, Differ, 1, 50},
			{api.Reading{}, api.Reading{Value: 10}, Agree, 0, 50},
			{api.Reading{Value: math.MinInt64}, api.Reading{Value: math.MaxInt64}, Differ, 1, 2 * limit},
		} {
			if v := p.Step(x.a, x.b); v != x.verdict || p.Run() != x.run || p.Worst() != x.worst {
				t.Errorf("round %d, step %d: %d, run %d, worst %d", round, i, v, p.Run(), p.Worst())
			}
		}
		p.Reset()
		if p.Run() != 0 || p.Worst() != 0 {
			t.Error("Reset")
		}
	}
	for range 1000002 {
		p.Step(api.Reading{}, api.Reading{Value: 11})
	}
	if p.Run() != 1000000 {
		t.Errorf("the longest run is %d", p.Run())
	}
	var none *Pair
	none.Reset()
	if none.Step(api.Reading{}, api.Reading{}) != Neither || none.Run() != 0 || none.Worst() != 0 {
		t.Error("a nil Pair")
	}
}
