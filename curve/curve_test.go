package curve

import (
	"math"
	"math/big"
	"math/rand"
	"slices"
	"testing"

	"aneroid/api"
)

const limit = 1<<39 - 1

func line(n int) api.Curve {
	var c api.Curve
	for i := range n {
		c.X = append(c.X, int64(i))
		c.Y = append(c.Y, int64(i*i))
	}
	return c
}

// valid and invalid curves.
var good = []api.Curve{
	{X: []int64{0, 10}, Y: []int64{0, 5}},
	{X: []int64{-limit, limit}, Y: []int64{limit, -limit}},
	{X: []int64{-limit, limit}, Y: []int64{-limit, limit}},
	{X: []int64{-limit, -limit + 1, 0, limit}, Y: []int64{7, -limit, limit, limit}},
	{X: []int64{-5, -3, 2, 9}, Y: []int64{4, 4, -7, 100}},
	{X: []int64{1, 2, 3}, Y: []int64{5, 5, 9}},
	line(2), line(64),
}

var bad = []api.Curve{
	{},
	{X: []int64{1}, Y: []int64{1}},
	line(65),
	{X: []int64{0, 1}, Y: []int64{0}},
	{X: []int64{0, 1}, Y: []int64{0, 1, 2}},
	{X: []int64{0, 0}, Y: []int64{0, 1}},
	{X: []int64{1, 0}, Y: []int64{0, 1}},
	{X: []int64{0, 5, 4}, Y: []int64{0, 1, 2}},
	{X: []int64{-limit - 1, 0}, Y: []int64{0, 1}},
	{X: []int64{0, limit + 1}, Y: []int64{0, 1}},
	{X: []int64{0, 1}, Y: []int64{0, limit + 1}},
	{X: []int64{0, 1}, Y: []int64{-limit - 1, 0}},
	{X: []int64{math.MinInt64, math.MaxInt64}, Y: []int64{0, 1}},
}

func want(c api.Curve, x int64) int64 {
	last := len(c.X) - 1
	if x <= c.X[0] {
		return c.Y[0]
	}
	if x >= c.X[last] {
		return c.Y[last]
	}
	i := 0
	for c.X[i+1] <= x {
		i++
	}
	n := new(big.Int).Mul(big.NewInt(c.Y[i+1]-c.Y[i]), big.NewInt(x-c.X[i]))
	n.Div(n, big.NewInt(c.X[i+1]-c.X[i]))
	return c.Y[i] + n.Int64()
}

// Promises 5.1 and 5.3.
func TestAt(t *testing.T) {
	random := rand.New(rand.NewSource(5))
	for _, c := range good {
		if !Right(c) {
			t.Errorf("%v is valid", c)
		}
		places := []int64{math.MinInt64, math.MaxInt64, 0, 1, -1, 3}
		for _, x := range c.X {
			places = append(places, x-1, x, x+1)
		}
		for range 200 {
			places = append(places, int64(random.Uint64())>>random.Intn(64))
		}
		least, most, ok := Bounds(c)
		if !ok || least != slices.Min(c.Y) || most != slices.Max(c.Y) {
			t.Errorf("Bounds of %v", c)
		}
		slices.Sort(places)
		list, ok := Map(c, places)
		if !ok || len(list) != len(places) {
			t.Fatalf("Map of %v", c)
		}
		for i, x := range places {
			y, ok := At(c, x)
			if !ok || y != want(c, x) || list[i] != y {
				t.Errorf("At(%v, %d) = %d, %v, Map %d, want %d", c, x, y, ok, list[i], want(c, x))
			}
			if y < least || y > most {
				t.Errorf("At(%v, %d) = %d is out of the bounds", c, x, y)
			}
			if Rises(c) && i > 0 && y < list[i-1] {
				t.Errorf("%v decreases at %d", c, x)
			}
		}
		for i, x := range c.X {
			if y, _ := At(c, x); y != c.Y[i] {
				t.Errorf("%v at its point %d is %d", c, i, y)
			}
		}
	}
	if y, ok := At(good[0], 3); y != 1 || !ok {
		t.Errorf("the example gives %d", y)
	}
	if l, ok := Map(good[0], nil); len(l) != 0 || !ok {
		t.Error("Map of nothing")
	}
}

// Promises 5.1 and 5.2 for invalid curves.
func TestInvalid(t *testing.T) {
	for i, c := range bad {
		if Right(c) || Rises(c) {
			t.Errorf("curve %d is not valid", i)
		}
		if y, ok := At(c, 1); y != 0 || ok {
			t.Errorf("At of invalid curve %d", i)
		}
		if l, ok := Map(c, []int64{1}); len(l) != 0 || ok {
			t.Errorf("Map of invalid curve %d", i)
		}
		if a, b, ok := Bounds(c); a != 0 || b != 0 || ok {
			t.Errorf("Bounds of invalid curve %d", i)
		}
		if b, ok := Back(c); b.X != nil || b.Y != nil || ok {
			t.Errorf("Back of invalid curve %d", i)
		}
	}
}

// Promise 5.2.
func TestRisesAndBack(t *testing.T) {
	for _, c := range good {
		never, strictly := true, true
		for i := 1; i < len(c.Y); i++ {
			never = never && c.Y[i] >= c.Y[i-1]
			strictly = strictly && c.Y[i] > c.Y[i-1]
		}
		if Rises(c) != never {
			t.Errorf("Rises(%v) = %v", c, Rises(c))
		}
		b, ok := Back(c)
		if ok != strictly {
			t.Errorf("Back(%v) = %v", c, ok)
		}
		if ok && (!slices.Equal(b.X, c.Y) || !slices.Equal(b.Y, c.X)) {
			t.Errorf("Back(%v) = %v", c, b)
		}
		if !ok && (b.X != nil || b.Y != nil) {
			t.Errorf("Back(%v) is not zero", c)
		}
	}
	c := line(3)
	b, _ := Back(c)
	b.X[0], b.Y[0] = 99, 99
	if c.X[0] != 0 || c.Y[0] != 0 {
		t.Error("Back shares memory with its argument")
	}
}
