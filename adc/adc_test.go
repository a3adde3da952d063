package adc

import (
	"math"
	"math/rand"
	"reflect"
	"slices"
	"testing"

	"aneroid/air"
	"aneroid/api"
	"aneroid/conf"
	"aneroid/disc"
	"aneroid/frame"
	"aneroid/label"
	"aneroid/lift"
	"aneroid/modes"
	"aneroid/word"
)

// plane produces inputs of an aircraft that flies level.
type plane struct {
	seq    [6]int
	q, p   int64
	heat   int64
	alpha  int64
	height int64
	load   int64
}

// level returns a plane whose impact pressure agrees with its lift.
func level() *plane {
	var a air.Air
	l := &plane{p: a.Pressure(300000), heat: 280000, alpha: 2000, height: 305000, load: 1000}
	l.q, _ = lift.Synthetic(conf.Wing(conf.Default()), l.alpha, l.load, 500000, l.p)
	return l
}

func (l *plane) put(id int, v int64) []byte {
	b, e := frame.Put(api.Frame{ID: id, Seq: l.seq[id-1] % 256, Value: v})
	if e != api.OK {
		panic("a value that fits no frame")
	}
	l.seq[id-1]++
	return b
}

func (l *plane) input() api.Input {
	return api.Input{
		Frames: [6][]byte{l.put(1, l.q), l.put(2, l.q), l.put(3, l.p), l.put(4, l.p), l.put(5, l.heat), l.put(6, l.alpha)},
		Load:   l.load, Weight: 500000, Height: l.height, Fixed: true, Track: 5000, North: 9000, East: 4000, Baro: 10132,
	}
}

func open(t *testing.T, c api.Conf) *Computer {
	t.Helper()
	k, e := New(c)
	if k == nil || e != api.OK {
		t.Fatalf("New returns %d", e)
	}
	return k
}

func flags(t *testing.T, o api.Output) disc.Marks {
	t.Helper()
	m, state, e := disc.Take(184, o.Discrete)
	if e != api.OK || state != api.Normal {
		t.Fatalf("the word of the flags: %d, %d", state, e)
	}
	return m
}

func read(t *testing.T, o api.Output) ([]int64, []int) {
	t.Helper()
	v, s, e := label.Read(label.Standard(), o.Words)
	if e != api.OK {
		t.Fatalf("the words: %d", e)
	}
	return v, s
}

// Promise 33.1.
func TestNew(t *testing.T) {
	c := conf.Default()
	c.Lag = 17
	if k, e := New(c); k != nil || e != api.ErrRange {
		t.Errorf("an invalid Lag gives %d", e)
	}
	c = conf.Default()
	c.Labels = nil
	if k, e := New(c); k != nil || e != api.ErrArg {
		t.Errorf("no labels give %d", e)
	}
	k := open(t, conf.Default())
	q, p := k.Values()
	a, b := k.Sources()
	if k.Tick() != 0 || len(k.Log()) != 0 || q != 0 || p != 0 || a != api.Nobody || b != api.Nobody {
		t.Error("a new computer")
	}
	o := k.Step(api.Input{})
	if k.Tick() != 1 || o.Mode != [2]int{modes.Warming, modes.Warming} || !flags(t, o)[15] {
		t.Error("a step without frames")
	}
}

// The computer keeps nothing of the configuration that it was given.
func TestConfMemory(t *testing.T) {
	c := conf.Default()
	k, other := open(t, c), open(t, conf.Default())
	c.Lift.X[0], c.Lift.Y[1], c.Labels[0].Scale = -9999, 7, 3
	a, b := level(), level()
	for range 20 {
		if !reflect.DeepEqual(k.Step(a.input()), other.Step(b.input())) {
			t.Fatal("a later change of the configuration has an effect")
		}
	}
}

// wild changes an input at random.
func wild(r *rand.Rand, in *api.Input, fault *[6]int, extremes []int64) {
	for i := range fault {
		if r.Intn(60) == 0 {
			fault[i] = r.Intn(8)
		}
		switch fault[i] {
		case 1:
			in.Frames[i] = nil
		case 2:
			in.Frames[i] = []byte{1, 2, 3}
		case 3:
			in.Frames[i] = slices.Clone(in.Frames[i])
			in.Frames[i][r.Intn(8)] ^= 1 << r.Intn(8)
		case 4, 5:
			f, _ := frame.Take(in.Frames[i])
			f.Value += int64(fault[i]*60000 - 200000)
			if b, e := frame.Put(f); e == api.OK {
				in.Frames[i] = b
			}
		}
	}
	switch r.Intn(40) {
	case 0:
		in.Load = extremes[r.Intn(len(extremes))]
	case 1:
		in.Weight = extremes[r.Intn(len(extremes))]
	case 2:
		in.Height = extremes[r.Intn(len(extremes))]
	case 3:
		in.North = extremes[r.Intn(len(extremes))]
	case 4:
		in.Baro = extremes[r.Intn(len(extremes))]
	case 5:
		in.Track = int(extremes[r.Intn(len(extremes))])
	case 6, 7:
		in.Fixed = false
	}
	in.Reset = r.Intn(700) == 0
}

func randomConf(r *rand.Rand) api.Conf {
	c := conf.Default()
	c.Lag, c.Warm, c.Stale, c.Fade, c.Back = r.Intn(5), r.Intn(30), r.Intn(10), r.Intn(20), 1+r.Intn(40)
	c.Tau = []int64{0, 1000, 32000, 1 << 30}[r.Intn(4)]
	c.Count = api.Count{Up: 1 + r.Intn(3), Down: r.Intn(3), Set: 10 + r.Intn(100), Most: 200}
	c.Gate, c.Recovery = r.Int63n(40000), r.Int63n(1001)
	for i := range 2 {
		c.Pitot[i] = api.Cal{Gain: 65000 + r.Int63n(1000), Off: r.Int63n(2000), Slope: r.Int63n(200), Drift: r.Int63n(20)}
		c.Static[i] = api.Cal{Gain: 65000 + r.Int63n(1000), Off: r.Int63n(2000), Slope: r.Int63n(200), Drift: r.Int63n(20)}
	}
	if r.Intn(3) == 0 {
		for i := range c.Labels {
			c.Labels[i].Bits = 8 + r.Intn(11)
		}
	}
	return c
}

// Promises 33.2, 33.3 and 33.4: the computer does what the chapter says.
func TestModel(t *testing.T) {
	extremes := []int64{math.MinInt64, math.MaxInt64, -1, 0, 1, 7499, 7500, 10800, 10801, 10000, 10001, 100000000, 200000, 65536}
	var seenModes [2][6]int
	var seenFlags [19]int
	for seed := range int64(30) {
		r := rand.New(rand.NewSource(seed))
		c := randomConf(r)
		k, m := open(t, c), newModel(c)
		l := level()
		var fault [6]int
		for tick := range 1200 {
			l.p = min(max(l.p+r.Int63n(2001)-1000, 100000), 7000000)
			l.q = min(max(l.q+r.Int63n(4001)-2000, -60000), 5000000)
			l.alpha += r.Int63n(41) - 20
			if seed%3 == 0 {
				l.p -= 1500
			}
			in := l.input()
			wild(r, &in, &fault, extremes)
			want := m.step(in)
			got := k.Step(in)
			if !reflect.DeepEqual(got, want) {
				t.Fatalf("seed %d, tick %d: %v, want %v", seed, tick, got, want)
			}
			q, p := k.Values()
			a, b := k.Sources()
			if q != m.q.value || p != m.p.value || a != m.q.source || b != m.p.source || k.Tick() != m.tick || !slices.Equal(k.Log(), m.log) {
				t.Fatalf("seed %d, tick %d: the state differs", seed, tick)
			}
			for i := range 2 {
				seenModes[i][got.Mode[i]]++
			}
			for i, set := range flags(t, got) {
				if set {
					seenFlags[i]++
				}
			}
			if len(got.Words) != 11 {
				t.Fatalf("%d words", len(got.Words))
			}
			for _, w := range got.Words {
				if !word.Odd(w) {
					t.Fatalf("the word %x is not odd", w)
				}
			}
		}
	}
	for i, n := range seenFlags {
		if n == 0 && (i < 10 || i > 13) {
			t.Errorf("the flag %d was never set", i)
		}
	}
	for i := range seenModes {
		for mode, n := range seenModes[i] {
			if n == 0 {
				t.Errorf("channel %d never had the mode %d", i, mode)
			}
		}
	}
}

// follow compares the computer with the model, input by input.
func follow(t *testing.T, c api.Conf, inputs []api.Input) []api.Output {
	t.Helper()
	k, m := open(t, c), newModel(c)
	var l []api.Output
	for i, in := range inputs {
		want := m.step(in)
		got := k.Step(in)
		if !reflect.DeepEqual(got, want) {
			t.Fatalf("input %d: %v, want %v", i, got, want)
		}
		l = append(l, got)
	}
	return l
}

// quick is a configuration in which readings follow the frames at once.
func quick() api.Conf {
	c := conf.Default()
	c.Lag, c.Fade = 0, 0
	c.Still.Low = 1
	return c
}

// Promise 33.2: the limits of the sensors of temperature and angle.
func TestSensorLimits(t *testing.T) {
	l := level()
	var inputs []api.Input
	for _, heat := range []int64{150000, 149999, 150000, 200000, 250001, 300000, 350000, 400000, 400001, 400000, 350000, 299999, 250000} {
		l.heat = heat
		inputs = append(inputs, l.input())
	}
	for _, alpha := range []int64{0, 60000, 60001, 60000, 0, -60000, -60001, -60000, 1, -1, 59999, 0} {
		l.alpha = alpha
		inputs = append(inputs, l.input())
	}
	outputs := follow(t, quick(), inputs)
	var failed []int
	for i, o := range outputs {
		_, s := read(t, o)
		if s[6] == api.Failure || s[8] == api.Failure {
			failed = append(failed, i)
		}
	}
	// Beyond a limit or too fast: the same readings, counted by hand.
	if want := []int{1, 4, 8, 11, 15, 19, 21}; !slices.Equal(failed, want) {
		t.Errorf("the inputs %v fail, want %v", failed, want)
	}
}

// Promise 33.2: what the Signs watch for.
func TestSignLimits(t *testing.T) {
	for _, x := range []struct {
		q1, q2 [2]int64 // in even and in odd ticks
		p      [2]int64 // before and after tick 270
		marks  []int
	}{
		{[2]int64{1000, 1016}, [2]int64{1000, 1017}, [2]int64{6000000, 6064000}, nil},
		{[2]int64{1000, 1016}, [2]int64{1000, 1017}, [2]int64{6000000, 6064001}, []int{10}},
		{[2]int64{639, 600}, [2]int64{640, 600}, [2]int64{64000, 64000}, []int{12}},
		{[2]int64{639, 600}, [2]int64{639, 600}, [2]int64{63999, 63999}, nil},
	} {
		l := level()
		var inputs []api.Input
		for tick := range 275 {
			l.p = x.p[0]
			if tick >= 270 {
				l.p = x.p[1]
			}
			in := l.input()
			in.Fixed = false // no synthetic static pressure
			in.Frames[0], _ = frame.Put(api.Frame{ID: 1, Seq: tick % 256, Value: x.q1[tick%2]})
			in.Frames[1], _ = frame.Put(api.Frame{ID: 2, Seq: tick % 256, Value: x.q2[tick%2]})
			inputs = append(inputs, in)
		}
		outputs := follow(t, quick(), inputs)
		m := flags(t, outputs[len(outputs)-1])
		for i := 10; i <= 13; i++ {
			if m[i] != slices.Contains(x.marks, i) {
				t.Errorf("%v: the flags are %v", x, disc.Names(m))
			}
		}
	}
}

// Promise 33.2: differences of exactly Tau and of exactly 4 Tau.
func TestTauLimits(t *testing.T) {
	for _, x := range []struct {
		q1, q2  int64 // above the synthetic impact pressure
		latched [2]bool
		mode    int
	}{
		{32000, 0, [2]bool{}, modes.Dual},
		{32000, -1, [2]bool{}, modes.Synthetic},
		{32001, 0, [2]bool{true, false}, modes.Synthetic},
		{0, 32001, [2]bool{false, true}, modes.Synthetic},
		{128000, 128000, [2]bool{}, modes.Dual},
		{128000, 128001, [2]bool{}, modes.Dual},
		{128001, 128000, [2]bool{}, modes.Dual},
		{128001, 128001, [2]bool{}, modes.Synthetic},
	} {
		l := level()
		var inputs []api.Input
		for tick := range 40 {
			in := l.input()
			if tick >= 20 {
				in.Frames[0], _ = frame.Put(api.Frame{ID: 1, Seq: tick, Value: l.q + x.q1})
				in.Frames[1], _ = frame.Put(api.Frame{ID: 2, Seq: tick, Value: l.q + x.q2})
			}
			inputs = append(inputs, in)
		}
		c := quick()
		c.Back = 1000
		outputs := follow(t, c, inputs)
		last := outputs[len(outputs)-1]
		m := flags(t, last)
		if last.Mode[0] != x.mode || [2]bool{m[0], m[1]} != x.latched {
			t.Errorf("%v: mode %d, flags %v", x, last.Mode[0], disc.Names(m))
		}
	}
}

// Promises 33.2 and 0.1: healthy sources.
func TestHealthy(t *testing.T) {
	k := open(t, conf.Default())
	l := level()
	for tick := 1; tick <= 400; tick++ {
		o := k.Step(l.input())
		v, s := read(t, o)
		m := flags(t, o)
		q, p := k.Values()
		if q != l.q || p != l.p {
			t.Fatalf("tick %d: %d, %d", tick, q, p)
		}
		if tick <= 10 {
			if o.Mode != [2]int{modes.Warming, modes.Warming} || s[0] != api.NoData || s[3] != api.NoData || s[9] != api.NoData || !m[15] {
				t.Fatalf("tick %d: modes %v, states %v", tick, o.Mode, s)
			}
			continue
		}
		if o.Mode != [2]int{modes.Dual, modes.Dual} || disc.Any(m, 0, 1, 2, 3, 4, 5, 6, 7, 8, 9, 10, 11, 12, 13, 14, 15, 16, 17, 18) {
			t.Fatalf("tick %d: modes %v, flags %v", tick, o.Mode, disc.Names(m))
		}
		if slices.Contains(s, api.Failure) || slices.Contains(s, api.NoData) {
			t.Fatalf("tick %d: states %v", tick, s)
		}
		if v[0] < 299984 || v[0] > 300016 || v[2] != 0 || v[6] != 280000 || v[8] != 2000 {
			t.Fatalf("tick %d: values %v", tick, v)
		}
		if a, b := k.Sources(); a != api.Middle || b != api.Middle && tick > 12 {
			t.Fatalf("tick %d: sources %d, %d", tick, a, b)
		}
	}
}

// Promise 0.2: one transducer that sends arbitrary bytes.
func TestOneWild(t *testing.T) {
	for seed := range int64(20) {
		r := rand.New(rand.NewSource(seed))
		k := open(t, conf.Default())
		l := level()
		for tick := 1; tick <= 400; tick++ {
			in := l.input()
			if tick > 30 {
				switch r.Intn(4) {
				case 0:
					b := make([]byte, r.Intn(12))
					r.Read(b)
					in.Frames[0] = b
				case 1:
					in.Frames[0] = l.put(1, r.Int63n(8000000))
				case 2:
					in.Frames[0] = nil
				}
			}
			o := k.Step(in)
			_, s := read(t, o)
			q, _ := k.Values()
			if s[3] == api.Normal && max(q-l.q, l.q-q) > 32000 {
				t.Fatalf("seed %d, tick %d: q is %d instead of %d", seed, tick, q, l.q)
			}
			if flags(t, o)[1] {
				t.Fatalf("seed %d, tick %d: the healthy one is latched", seed, tick)
			}
		}
		if e := slices.IndexFunc(k.Log(), func(e api.Event) bool { return e.Code == 1 }); e < 0 {
			t.Errorf("seed %d: the wild one is not latched", seed)
		}
	}
}

// Promise 0.3: whatever both impact pressure transducers send.
func TestBothWild(t *testing.T) {
	for seed := range int64(20) {
		r := rand.New(rand.NewSource(seed))
		c := conf.Default()
		c.Fade = 0
		k := open(t, c)
		l := level()
		synthetic := l.q
		for tick := 1; tick <= 300; tick++ {
			in := l.input()
			if tick > 30 && r.Intn(5) > 0 {
				v := l.q + r.Int63n(1000000) - 300000
				in.Frames[0], in.Frames[1] = l.put(1, v), l.put(2, v+r.Int63n(50000))
			}
			o := k.Step(in)
			_, s := read(t, o)
			q, _ := k.Values()
			if s[3] == api.Normal && max(q-synthetic, synthetic-q) > 4*32000 {
				t.Fatalf("seed %d, tick %d: q is %d, synthetic %d", seed, tick, q, synthetic)
			}
		}
	}
}

// Promise 0.4: a silent transducer is latched until a reset.
func TestSilent(t *testing.T) {
	k := open(t, conf.Default())
	l := level()
	for range 30 {
		k.Step(l.input())
	}
	for tick := 1; tick <= 40; tick++ {
		in := l.input()
		in.Frames[1] = nil
		o := k.Step(in)
		if flags(t, o)[1] != (tick >= 10) {
			t.Fatalf("after %d silent ticks: %v", tick, disc.Names(flags(t, o)))
		}
		if a, _ := k.Sources(); a != api.First || o.Mode[0] != modes.Only1 {
			t.Fatalf("after %d silent ticks: source %d, mode %d", tick, a, o.Mode[0])
		}
	}
	for range 30 {
		if !flags(t, k.Step(l.input()))[1] {
			t.Fatal("the latch was removed")
		}
	}
	before := k.Tick()
	in := l.input()
	in.Reset = true
	o := k.Step(in)
	log := k.Log()
	if m := flags(t, o); m[1] || !m[18] || !m[15] || k.Tick() != 1 || o.Mode != [2]int{modes.Warming, modes.Warming} {
		t.Error("the state after a reset")
	}
	if e := log[len(log)-1]; e != (api.Event{Tick: before, Code: 9}) {
		t.Errorf("the last event is %v", e)
	}
	want := []api.Event{{Tick: 11, Code: 11, Arg: 1}, {Tick: 11, Code: 10, Arg: 1}, {Tick: 31, Code: 10, Arg: 2}, {Tick: 40, Code: 2}, {Tick: before, Code: 9}}
	if !slices.Equal(log, want) {
		t.Errorf("the log is %v", log)
	}
}

// Frozen and drained probes are flagged.
func TestSigns(t *testing.T) {
	k := open(t, conf.Default())
	l := level()
	l.q = 100
	l.p = 6000000
	var m disc.Marks
	for range 300 {
		m = flags(t, k.Step(l.input()))
		l.p -= 500
	}
	if !m[10] || !m[11] || !m[12] || !m[13] {
		t.Errorf("the flags are %v", disc.Names(m))
	}
}

// The tick stays at its maximum.
func TestGreatestTick(t *testing.T) {
	k := open(t, conf.Default())
	k.tick = 999999
	k.Step(api.Input{})
	k.Step(api.Input{})
	if k.Tick() != 1000000 {
		t.Errorf("the tick is %d", k.Tick())
	}
}

func TestMemory(t *testing.T) {
	k := open(t, conf.Default())
	l := level()
	first := k.Step(l.input())
	kept := slices.Clone(first.Words)
	for range 20 {
		k.Step(l.input())
	}
	if !slices.Equal(first.Words, kept) {
		t.Error("an output changes later")
	}
	k.Log()[0].Code = 77
	if k.Log()[0].Code == 77 {
		t.Error("Log hands out its own memory")
	}
}

// Promise 33.3.
func TestNil(t *testing.T) {
	var k *Computer
	o := k.Step(api.Input{Reset: true})
	q, p := k.Values()
	a, b := k.Sources()
	if o.Words != nil || o.Discrete != 0 || o.Mode != [2]int{} || len(k.Log()) != 0 || k.Tick() != 0 || q != 0 || p != 0 || a != 0 || b != 0 {
		t.Error("a nil computer")
	}
}
