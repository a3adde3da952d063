package conf

import (
	"math"
	"math/rand"
	"reflect"
	"testing"

	"aneroid/air"
	"aneroid/api"
	"aneroid/label"
	"aneroid/speed"
)

// breaks returns for each field ways to make it invalid, with the error.
type breach struct {
	field int
	e     api.Errno
	f     func(*api.Conf)
}

func breaches() []breach {
	return []breach{
		{1, api.ErrArg, func(c *api.Conf) { c.Pitot[0].Gain = 255 }},
		{2, api.ErrArg, func(c *api.Conf) { c.Pitot[1].Drift = 65537 }},
		{3, api.ErrArg, func(c *api.Conf) { c.Static[0].Off = 1<<32 + 1 }},
		{4, api.ErrArg, func(c *api.Conf) { c.Static[1].Slope = -1<<20 - 1 }},
		{5, api.ErrRange, func(c *api.Conf) { c.Total.Low = c.Total.High + 1 }},
		{5, api.ErrRange, func(c *api.Conf) { c.Total.Rate = -1 }},
		{6, api.ErrRange, func(c *api.Conf) { c.Still.Low = 0 }},
		{6, api.ErrRange, func(c *api.Conf) { c.Still.Low = math.MinInt64 }},
		{6, api.ErrRange, func(c *api.Conf) { c.Still.High = 1 << 39 }},
		{7, api.ErrRange, func(c *api.Conf) { c.Lag = -1 }},
		{7, api.ErrRange, func(c *api.Conf) { c.Lag = 17 }},
		{8, api.ErrRange, func(c *api.Conf) { c.Warm = -1 }},
		{8, api.ErrRange, func(c *api.Conf) { c.Warm = 1001 }},
		{9, api.ErrRange, func(c *api.Conf) { c.Tau = -1 }},
		{9, api.ErrRange, func(c *api.Conf) { c.Tau = 1<<30 + 1 }},
		{10, api.ErrRange, func(c *api.Conf) { c.Count.Up = 0 }},
		{10, api.ErrRange, func(c *api.Conf) { c.Count.Most = c.Count.Set - 1 }},
		{11, api.ErrRange, func(c *api.Conf) { c.Stale = -1 }},
		{11, api.ErrRange, func(c *api.Conf) { c.Stale = 1001 }},
		{12, api.ErrRange, func(c *api.Conf) { c.Fade = -1 }},
		{12, api.ErrRange, func(c *api.Conf) { c.Fade = 1001 }},
		{13, api.ErrRange, func(c *api.Conf) { c.Back = 0 }},
		{13, api.ErrRange, func(c *api.Conf) { c.Back = 10001 }},
		{14, api.ErrRange, func(c *api.Conf) { c.Gate = -1 }},
		{14, api.ErrRange, func(c *api.Conf) { c.Gate = 10000001 }},
		{15, api.ErrArg, func(c *api.Conf) { c.Lift = api.Curve{} }},
		{15, api.ErrArg, func(c *api.Conf) { c.Wing = 0 }},
		{15, api.ErrArg, func(c *api.Conf) { c.Wing = 100000001 }},
		{15, api.ErrArg, func(c *api.Conf) { c.LeastCL = 0 }},
		{15, api.ErrArg, func(c *api.Conf) { c.LeastCL = 1000001 }},
		{16, api.ErrRange, func(c *api.Conf) { c.Recovery = -1 }},
		{16, api.ErrRange, func(c *api.Conf) { c.Recovery = 1001 }},
		{17, api.ErrArg, func(c *api.Conf) { c.Labels = nil }},
		{17, api.ErrArg, func(c *api.Conf) { c.Labels = c.Labels[:10] }},
		{17, api.ErrArg, func(c *api.Conf) { c.Labels = append(c.Labels, api.Label{Number: 1, Bits: 1, Scale: 1}) }},
		{17, api.ErrArg, func(c *api.Conf) { c.Labels[4].Number = c.Labels[9].Number }},
	}
}

// Promise 32.1.
func TestCheck(t *testing.T) {
	if field, e := Check(Default()); field != 0 || e != api.OK {
		t.Fatalf("the default configuration: %d, %d", field, e)
	}
	l := breaches()
	for i, x := range l {
		c := Default()
		x.f(&c)
		if field, e := Check(c); field != x.field || e != x.e {
			t.Errorf("breach %d of field %d: %d, %d", i, x.field, field, e)
		}
		for _, y := range l[i:] { // the first invalid field counts
			c := Default()
			y.f(&c)
			x.f(&c)
			if field, e := Check(c); field != x.field || e != x.e {
				t.Errorf("breaches of fields %d and %d: %d, %d", x.field, y.field, field, e)
			}
		}
	}
	if field, e := Check(api.Conf{}); field != 1 || e != api.ErrArg {
		t.Errorf("the zero configuration: %d, %d", field, e)
	}
}

func TestValidEdges(t *testing.T) {
	for i, f := range []func(*api.Conf){
		func(c *api.Conf) { c.Still.Low = 1 },
		func(c *api.Conf) {
			c.Lag, c.Warm, c.Tau, c.Stale, c.Fade, c.Back, c.Gate, c.Recovery = 0, 0, 0, 0, 0, 1, 0, 0
		},
		func(c *api.Conf) {
			c.Lag, c.Warm, c.Tau, c.Stale, c.Fade, c.Back, c.Gate, c.Recovery = 16, 1000, 1<<30, 1000, 1000, 10000, 10000000, 1000
		},
		func(c *api.Conf) { c.Wing, c.LeastCL = 1, 1 },
		func(c *api.Conf) { c.Wing, c.LeastCL = 100000000, 1000000 },
	} {
		c := Default()
		f(&c)
		if field, e := Check(c); field != 0 || e != api.OK {
			t.Errorf("edge %d: %d, %d", i, field, e)
		}
	}
}

func TestDefault(t *testing.T) {
	plain := api.Cal{Gain: 65536}
	want := api.Conf{
		Pitot: [2]api.Cal{plain, plain}, Static: [2]api.Cal{plain, plain},
		Total: api.Limits{Low: -64000, High: 40000000, Rate: 4000000},
		Still: api.Limits{Low: 64000, High: 8000000, Rate: 640000},
		Lag:   2, Warm: 10, Tau: 32000, Count: api.Count{Up: 2, Down: 1, Set: 20, Most: 40}, Stale: 5, Fade: 10, Back: 50, Gate: 30000,
		Lift: api.Curve{X: []int64{-10000, 5000, 20000}, Y: []int64{-5000, 10000, 20000}},
		Wing: 1000000, LeastCL: 1000, Recovery: 980, Labels: label.Standard(),
	}
	c := Default()
	if !reflect.DeepEqual(c, want) {
		t.Errorf("Default = %v", c)
	}
	c.Lift.X[0], c.Labels[0].Bits = 7, 1
	if !reflect.DeepEqual(Default(), want) {
		t.Error("Default hands out shared memory")
	}
}

func TestWing(t *testing.T) {
	c := Default()
	w := Wing(c)
	if !reflect.DeepEqual(w.Lift, c.Lift) || w.Area != c.Wing || w.Least != c.LeastCL {
		t.Errorf("Wing = %v", w)
	}
	w.Lift.X[0], w.Lift.Y[0] = 1, 1
	if !reflect.DeepEqual(c, Default()) {
		t.Error("Wing shares memory with its argument")
	}
}

var numbers = []int64{math.MinInt64, -1<<32 - 1, -1 << 32, -1000, -1, 0, 1, 1000, 1448000, 6484800, 7000000, 1 << 32, 1<<32 + 1, math.MaxInt64}

// Promises 32.2 and 32.3.
func TestHeightsAndSpeeds(t *testing.T) {
	var a air.Air
	r := rand.New(rand.NewSource(32))
	for _, n := range numbers {
		for _, by := range numbers {
			c, d := min(max(n, -1<<32), 1<<32), min(max(by, 0), 1<<32)
			if low, high := Heights(&a, n, by); low != a.Height(c+d) || high != a.Height(c-d) {
				t.Errorf("Heights(%d, %d) = %d, %d", n, by, low, high)
			}
			if low, high := Speeds(n, by); low != speed.Calibrated(c-d) || high != speed.Calibrated(c+d) {
				t.Errorf("Speeds(%d, %d) = %d, %d", n, by, low, high)
			}
			for range 5 {
				p := c - d + r.Int63n(2*d+1)
				if low, high := Heights(&a, n, by); a.Height(p) < low || a.Height(p) > high {
					t.Errorf("the altitude of %d is not between %d and %d", p, low, high)
				}
			}
		}
	}
	if low, high := Heights(nil, 5, 5); low != 0 || high != 0 {
		t.Error("Heights of a nil Air")
	}
}

// Promise 32.2.
func TestWarmup(t *testing.T) {
	for _, x := range [][2]int{{0, 1}, {10, 11}, {1000, 1001}, {-1, 0}, {1001, 0}, {math.MinInt, 0}, {math.MaxInt, 0}} {
		if n := Warmup(api.Conf{Warm: x[0]}); n != x[1] {
			t.Errorf("Warmup(%d) = %d", x[0], n)
		}
	}
}
