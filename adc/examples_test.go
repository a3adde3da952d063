package adc

import (
	"testing"

	"aneroid/api"
	"aneroid/conf"
	"aneroid/frame"
	"aneroid/modes"
)

// The examples 4 to 8 of the whole.

// Two static pressures give their mean, with a synthetic one the median.
func TestMeanAndMedian(t *testing.T) {
	k := open(t, quick())
	l := level()
	for tick := range 20 {
		in := l.input()
		in.Fixed = tick >= 14
		in.Height = 999999
		in.Frames[3], _ = frame.Put(api.Frame{ID: 4, Seq: tick, Value: l.p + 100})
		k.Step(in)
		_, p := k.Values()
		_, source := k.Sources()
		want, wantSource := l.p+50, api.Both
		if tick > 14 { // learned in the tick before: the median is the synthetic one
			want, wantSource = p, api.Middle
		}
		if p != want || source != wantSource || p < l.p || p > l.p+100 {
			t.Fatalf("tick %d: %d above the first, source %d", tick, p-l.p, source)
		}
	}
}

// A second transducer that sends invalid bytes is latched after ten ticks.
func TestInvalidBytes(t *testing.T) {
	k := open(t, quick())
	l := level()
	for range 20 {
		k.Step(l.input())
	}
	for tick := 1; tick <= 15; tick++ {
		in := l.input()
		in.Fixed = false
		in.Frames[5] = nil
		in.Frames[1] = []byte{1, 2, 3}
		o := k.Step(in)
		if q, _ := k.Sources(); q != api.First || flags(t, o)[1] != (tick >= 10) {
			t.Fatalf("tick %d: source %d, flag %v", tick, q, flags(t, o)[1])
		}
	}
}

// Without any source the channel is lost at once, and its words fail.
func TestLost(t *testing.T) {
	k := open(t, quick())
	l := level()
	for range 20 {
		k.Step(l.input())
	}
	before, _ := k.Values()
	o := k.Step(api.Input{Baro: 10132})
	_, s := read(t, o)
	q, _ := k.Values()
	if o.Mode != [2]int{modes.Lost, modes.Lost} || q != before {
		t.Errorf("the modes are %v, q is %d", o.Mode, q)
	}
	for i, state := range s[:9] {
		if state != api.Failure {
			t.Errorf("word %d has the state %d", i, state)
		}
	}
	if s[9] != api.NoData || s[10] != api.NoData {
		t.Errorf("the states of the wind are %v", s[9:])
	}
}

// After a change of the source the output reaches it within Fade ticks.
func TestFade(t *testing.T) {
	c := conf.Default()
	c.Lag = 0
	k := open(t, c)
	l := level()
	for range 20 {
		k.Step(l.input())
	}
	previous, _ := k.Values()
	for tick := 1; tick <= 15; tick++ {
		in := l.input()
		in.Frames[0] = nil
		in.Frames[1], _ = frame.Put(api.Frame{ID: 2, Seq: 19 + tick, Value: l.q + 20000})
		k.Step(in)
		q, _ := k.Values()
		if source, _ := k.Sources(); source != api.Second {
			t.Fatalf("tick %d: the source is %d", tick, source)
		}
		if q < previous || q-previous > 2000 || tick >= 10 && q != l.q+20000 {
			t.Fatalf("tick %d: %d after %d", tick, q-l.q, previous-l.q)
		}
		previous = q
	}
}
