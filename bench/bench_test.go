package bench

import (
	"fmt"
	"math"
	"math/rand"
	"testing"

	"aneroid/adc"
	"aneroid/api"
	"aneroid/conf"
	"aneroid/disc"
	"aneroid/frame"
	"aneroid/label"
)

// flight returns inputs of which some frames are missing.
func flight(seed int64, n, faults int) []api.Input {
	r := rand.New(rand.NewSource(seed))
	var l []api.Input
	p := int64(6000000)
	for tick := range n {
		p += r.Int63n(2001) - 1000
		in := api.Input{Load: 1000, Weight: 500000, Height: 65000, Fixed: r.Intn(10) > 0, Baro: 10132, North: 5000}
		for i, v := range []int64{300000, 300100, p, p + 50, 280000, 2000} {
			in.Frames[i], _ = frame.Put(api.Frame{ID: i + 1, Seq: tick % 256, Value: v})
			if r.Intn(100) < faults {
				in.Frames[i] = nil
			}
		}
		l = append(l, in)
	}
	return l
}

// Promises 36.1 and 36.4.
func TestWatch(t *testing.T) {
	for seed := range int64(8) {
		c := conf.Default()
		l := flight(seed, 150, int(seed*8))
		r, e := Watch(c, l)
		if e != api.OK {
			t.Fatalf("Watch returns %d", e)
		}
		var want Report
		k, _ := adc.New(c)
		for _, in := range l {
			o := k.Step(in)
			want.Ticks++
			v, s, _ := label.Read(c.Labels, o.Words)
			for i := range s {
				if s[i] != api.Normal {
					continue
				}
				if want.Normal[i] == 0 {
					want.Low[i], want.High[i] = v[i], v[i]
				}
				want.Normal[i]++
				want.Low[i], want.High[i] = min(want.Low[i], v[i]), max(want.High[i], v[i])
			}
			want.Modes[0][o.Mode[0]]++
			want.Modes[1][o.Mode[1]]++
			m, _, _ := disc.Take(184, o.Discrete)
			for i := range m {
				if m[i] {
					want.Marks[i]++
				}
			}
		}
		want.Events = len(k.Log())
		if r != want {
			t.Fatalf("seed %d: %v, want %v", seed, r, want)
		}
		for _, modes := range r.Modes {
			sum := 0
			for _, n := range modes {
				sum += n
			}
			if sum != r.Ticks {
				t.Errorf("seed %d: the modes add up to %d", seed, sum)
			}
		}
		if seed < 4 && (r.Normal[0] == 0 || r.High[0] <= r.Low[0]) {
			t.Errorf("seed %d: the run has no altitudes", seed)
		}
	}
}

// Promise 36.1: the errors and their order.
func TestErrors(t *testing.T) {
	bad := conf.Default()
	bad.Lag = 99
	if r, e := Watch(bad, make([]api.Input, 401)); r != (Report{}) || e != api.ErrRange {
		t.Errorf("an invalid configuration gives %d", e)
	}
	if r, e := Watch(conf.Default(), make([]api.Input, 401)); r != (Report{}) || e != api.ErrLong {
		t.Errorf("too many inputs give %d", e)
	}
	if r, e := Watch(conf.Default(), make([]api.Input, 400)); r.Ticks != 400 || e != api.OK {
		t.Errorf("400 inputs give %d", e)
	}
	if r, e := Watch(conf.Default(), nil); r != (Report{}) || e != api.OK || !Clean(r) {
		t.Errorf("no inputs give %d", e)
	}
}

func draw(r *rand.Rand) Report {
	var x Report
	n := func() int { return int(int64(r.Uint64()) >> r.Intn(64)) }
	x.Ticks, x.Events = n(), n()
	for i := range x.Normal {
		x.Normal[i] = n() * r.Intn(2)
		x.Low[i], x.High[i] = int64(n()), int64(n())
	}
	for i := range 6 {
		x.Modes[0][i], x.Modes[1][i] = n(), n()
	}
	for i := range x.Marks {
		x.Marks[i] = n() * r.Intn(2)
	}
	return x
}

// Promise 36.2.
func TestMerge(t *testing.T) {
	r := rand.New(rand.NewSource(36))
	for range 500 {
		a, b := draw(r), draw(r)
		m := Merge(a, b)
		if m.Ticks != a.Ticks+b.Ticks || m.Events != a.Events+b.Events {
			t.Fatal("the sums of ticks and events")
		}
		for i := range m.Normal {
			var low, high int64
			switch {
			case a.Normal[i] != 0 && b.Normal[i] != 0:
				low, high = min(a.Low[i], b.Low[i]), max(a.High[i], b.High[i])
			case a.Normal[i] != 0:
				low, high = a.Low[i], a.High[i]
			case b.Normal[i] != 0:
				low, high = b.Low[i], b.High[i]
			}
			if m.Normal[i] != a.Normal[i]+b.Normal[i] || m.Low[i] != low || m.High[i] != high {
				t.Fatalf("word %d: %d, %d, %d", i, m.Normal[i], m.Low[i], m.High[i])
			}
		}
		for i := range 6 {
			if m.Modes[0][i] != a.Modes[0][i]+b.Modes[0][i] || m.Modes[1][i] != a.Modes[1][i]+b.Modes[1][i] {
				t.Fatalf("mode %d", i)
			}
		}
		for i := range m.Marks {
			if m.Marks[i] != a.Marks[i]+b.Marks[i] {
				t.Fatalf("mark %d", i)
			}
		}
	}
	if m := Merge(Report{Ticks: math.MaxInt}, Report{Ticks: 1}); m.Ticks != math.MinInt {
		t.Error("sums wrap around")
	}
}

// Promise 36.2.
func TestClean(t *testing.T) {
	for i := range 19 {
		for _, n := range []int{1, -1, math.MinInt} {
			var r Report
			r.Marks[i] = n
			if Clean(r) != (i >= 15) {
				t.Errorf("flag %d with the count %d", i, n)
			}
		}
	}
	if !Clean(Report{}) {
		t.Error("the empty report")
	}
}

// Promise 36.3.
func TestText(t *testing.T) {
	r := rand.New(rand.NewSource(37))
	for range 100 {
		x := draw(r)
		want := fmt.Sprintf("ticks %d\nevents %d\n", x.Ticks, x.Events)
		for i := range 11 {
			want += fmt.Sprintf("word %d %d %d %d\n", i, x.Normal[i], x.Low[i], x.High[i])
		}
		for i, name := range []string{"q", "p"} {
			m := x.Modes[i]
			want += fmt.Sprintf("mode %s %d %d %d %d %d %d\n", name, m[0], m[1], m[2], m[3], m[4], m[5])
		}
		for i, n := range x.Marks {
			if n != 0 {
				want += fmt.Sprintf("mark %d %d\n", i, n)
			}
		}
		if Text(x) != want {
			t.Fatalf("Text = %q, want %q", Text(x), want)
		}
	}
}
