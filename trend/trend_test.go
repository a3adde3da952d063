package trend

import (
	"math"
	"math/big"
	"math/rand"
	"slices"
	"testing"

	"aneroid/api"
)

func open(t *testing.T, size int) *Trend {
	t.Helper()
	l, e := New(size)
	if l == nil || e != api.OK {
		t.Fatalf("New(%d) returns %d", size, e)
	}
	return l
}

func floorBig(a *big.Int, b int64) int64 { return new(big.Int).Div(a, big.NewInt(b)).Int64() }

// model is the regression line of the definition.
type model struct {
	y           []int64
	slope, mean int64
}

func fit(y []int64) model {
	n := int64(len(y))
	sum, weighted := new(big.Int), new(big.Int)
	for x, v := range y {
		sum.Add(sum, big.NewInt(v))
		weighted.Add(weighted, big.NewInt(int64(x)*v))
	}
	top := new(big.Int).Mul(weighted, big.NewInt(12000))
	top.Sub(top, new(big.Int).Mul(sum, big.NewInt(6000*(n-1))))
	return model{y, floorBig(top, n*(n*n-1)), floorBig(sum, n)}
}

func (m model) at(x int64) int64 {
	x = min(max(x, -1000), 1000)
	top := new(big.Int).Mul(big.NewInt(m.slope), big.NewInt(2*x-int64(len(m.y))+1))
	return m.mean + floorBig(top, 2000)
}

func isEmpty(l *Trend) bool {
	a, ok1 := l.Slope()
	b, ok2 := l.Middle()
	c, ok3 := l.At(3)
	d, ok4 := l.Worst()
	return a == 0 && b == 0 && c == 0 && d == 0 && !ok1 && !ok2 && !ok3 && !ok4 && len(l.Outliers(-1)) == 0
}

// Promises 44.1, 44.2 and 44.3.
func TestTrend(t *testing.T) {
	r := rand.New(rand.NewSource(44))
	for size := 2; size <= 64; size++ {
		l := open(t, size)
		for range 2 {
			var kept []int64
			if l.Len() != 0 || !isEmpty(l) {
				t.Error("an empty trend has a line")
			}
			for i := range 150 {
				v := int64(r.Uint64()) >> (36 + r.Intn(20))
				if r.Intn(20) == 0 {
					v = []int64{math.MinInt64, math.MaxInt64, 100000000, 100000001, -100000001}[r.Intn(5)]
				}
				l.Put(v)
				kept = append(kept, min(max(v, -100000000), 100000000))
				kept = kept[max(len(kept)-size, 0):]
				if l.Len() != len(kept) {
					t.Fatalf("size %d: %d values", size, l.Len())
				}
				if len(kept) < 2 {
					if !isEmpty(l) {
						t.Error("one value has a line")
					}
					continue
				}
				m := fit(kept)
				slope, ok1 := l.Slope()
				mean, ok2 := l.Middle()
				if slope != m.slope || mean != m.mean || !ok1 || !ok2 {
					t.Fatalf("size %d, value %d: %d, %d, want %d, %d", size, i, slope, mean, m.slope, m.mean)
				}
				for _, x := range []int64{math.MinInt64, -1001, -1000, -1, 0, 1, 31, 63, 1000, 1001, math.MaxInt64} {
					if y, ok := l.At(x); y != m.at(x) || !ok {
						t.Fatalf("At(%d) = %d, want %d", x, y, m.at(x))
					}
				}
				var worst int64
				var away []int64
				for x, v := range kept {
					d := max(v-m.at(int64(x)), m.at(int64(x))-v)
					worst = max(worst, d)
					away = append(away, d)
				}
				if w, ok := l.Worst(); w != worst || !ok {
					t.Fatalf("Worst = %d, want %d", w, worst)
				}
				for _, far := range []int64{math.MinInt64, -1, 0, worst / 2, worst - 1, worst, math.MaxInt64} {
					var want []int
					for x, d := range away {
						if d > far {
							want = append(want, x)
						}
					}
					if got := l.Outliers(far); !slices.Equal(got, want) {
						t.Fatalf("Outliers(%d) = %v, want %v", far, got, want)
					}
				}
			}
			l.Reset()
		}
	}
	for _, size := range []int{1, 0, -1, 65, math.MinInt, math.MaxInt} {
		if l, e := New(size); l != nil || e != api.ErrRange {
			t.Errorf("New(%d) returns %d", size, e)
		}
	}
}

// Promise 44.4.
func TestConsequences(t *testing.T) {
	for _, d := range []int64{-700, -1, 0, 3, 10} {
		l := open(t, 20)
		for i := range int64(60) {
			l.Put(17 + d*i)
			if slope, ok := l.Slope(); ok && slope != 1000*d {
				t.Fatalf("%d per step has the slope %d", d, slope)
			}
			if w, ok := l.Worst(); ok && w > 1 {
				t.Fatalf("%d per step differs by %d", d, w)
			}
		}
	}
	r := rand.New(rand.NewSource(45))
	l := open(t, 15)
	v := int64(-50000)
	for range 500 {
		v += r.Int63n(300) * int64(r.Intn(2))
		l.Put(v)
		if slope, _ := l.Slope(); slope < 0 {
			t.Fatalf("the slope is %d", slope)
		}
	}
	example := open(t, 3)
	for _, v := range []int64{0, 10, 20} {
		example.Put(v)
	}
	if slope, ok := example.Slope(); slope != 10000 || !ok {
		t.Error("the example")
	}
}

func TestNil(t *testing.T) {
	var l *Trend
	l.Put(5)
	l.Reset()
	if l.Len() != 0 || !isEmpty(l) {
		t.Error("a nil trend")
	}
}
