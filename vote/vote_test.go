package vote

import (
	"math"
	"slices"
	"testing"

	"aneroid/api"
	"aneroid/pair"
)

const limit = 1<<39 - 1

var samples = []int64{math.MinInt64, -limit, -9, 0, 5, 7, 8, 900, limit, math.MaxInt64}

func ballot(mask int, a, b, c int64) [3]api.Reading {
	l := [3]api.Reading{{Value: a}, {Value: b}, {Value: c}}
	for i := range l {
		if mask&(1<<i) == 0 {
			l[i].Err = api.ErrStale
		}
	}
	return l
}

func want(mask int, a, b, c, tau int64) (int64, int) {
	switch mask {
	case 7:
		l := []int64{a, b, c}
		slices.Sort(l)
		return l[1], 5
	case 3:
		return pair.Mean(a, b), 3
	case 5:
		if pair.Apart(a, c) > tau {
			return c, 4
		}
		return a, 1
	case 6:
		if pair.Apart(b, c) > tau {
			return c, 4
		}
		return b, 2
	case 1:
		return a, 1
	case 2:
		return b, 2
	case 4:
		return c, 4
	}
	return 0, 0
}

// Promises 24.1, 24.2 and 24.3.
func TestAll(t *testing.T) {
	for mask := range 8 {
		for _, a := range samples {
			for _, b := range samples {
				for _, c := range samples {
					l := ballot(mask, a, b, c)
					var there []int64
					for _, r := range l {
						if r.Err == api.OK {
							there = append(there, r.Value)
						}
					}
					if There(l) != len(there) {
						t.Fatalf("There(%v) = %d", l, There(l))
					}
					for _, tau := range []int64{math.MinInt64, -1, 0, 1, 2, 893, math.MaxInt64} {
						v, source := Pick(l, tau)
						if wantV, wantS := want(mask, a, b, c, tau); v != wantV || source != wantS {
							t.Fatalf("Pick(%v, %d) = %d, %d, want %d, %d", l, tau, v, source, wantV, wantS)
						}
						inside := slices.Max([]int64{a, -limit, b, c}) <= limit && slices.Min([]int64{a, b, c}) >= -limit
						if len(there) > 0 && inside && (v < slices.Min(there) || v > slices.Max(there)) {
							t.Fatalf("Pick(%v, %d) = %d is not between", l, tau, v)
						}
					}
					spread, ok := Spread(l)
					if ok != (len(there) > 0) || !ok && spread != 0 {
						t.Fatalf("Spread(%v) = %d, %v", l, spread, ok)
					}
					if ok && spread != pair.Apart(slices.Max(there), slices.Min(there)) {
						t.Fatalf("Spread(%v) = %d", l, spread)
					}
				}
			}
		}
	}
	if v, s := Pick(ballot(7, 5, 900, 7), 0); v != 7 || s != api.Middle {
		t.Error("the example")
	}
}

// Promise 24.2.
func TestBar(t *testing.T) {
	l := [3]api.Reading{{Value: 5}, {Value: 6, Err: api.ErrSum}, {Value: 7}}
	for mask := range 8 {
		barred := [3]bool{mask&1 != 0, mask&2 != 0, mask&4 != 0}
		got := Bar(l, barred)
		for i, r := range got {
			want := l[i]
			if barred[i] {
				want = api.Reading{Value: 0, Err: api.ErrNone}
			}
			if r != want {
				t.Errorf("Bar(%v)[%d] = %v", barred, i, r)
			}
		}
	}
	if l != [3]api.Reading{{Value: 5}, {Value: 6, Err: api.ErrSum}, {Value: 7}} {
		t.Error("Bar changed its argument")
	}
}
