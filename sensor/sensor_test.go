package sensor

import (
	"testing"

	"aneroid/api"
	"aneroid/frame"
)

var plain = api.Cal{Gain: 65536}

func open(t *testing.T, patience int, c api.Cal, l api.Limits, shift int) *Sensor {
	t.Helper()
	s, e := New(7, patience, c, l, shift)
	if s == nil || e != api.OK {
		t.Fatalf("New returns %d", e)
	}
	return s
}

func send(t *testing.T, id, seq int, value, temp int64) []byte {
	t.Helper()
	b, e := frame.Put(api.Frame{ID: id, Seq: seq % 256, Value: value, Temp: temp})
	if e != api.OK {
		t.Fatal(e)
	}
	return b
}

// Promise 17.1: the errors, and their order.
func TestNew(t *testing.T) {
	good, bad := api.Limits{High: 9}, api.Limits{Low: 1}
	for _, x := range []struct {
		id, patience int
		c            api.Cal
		l            api.Limits
		shift        int
		e            api.Errno
	}{
		{0, 0, plain, good, 0, api.OK},
		{255, 1000, plain, good, 16, api.OK},
		{256, 0, api.Cal{}, bad, 99, api.ErrRange},
		{1, 1001, api.Cal{}, good, 0, api.ErrRange},
		{-1, 0, plain, good, 0, api.ErrRange},
		{1, 0, api.Cal{}, bad, 99, api.ErrArg},
		{1, 0, api.Cal{Gain: 255}, good, 0, api.ErrArg},
		{1, 0, plain, bad, 0, api.ErrRange},
		{1, 0, plain, good, 17, api.ErrRange},
		{1, 0, plain, good, -1, api.ErrRange},
	} {
		s, e := New(x.id, x.patience, x.c, x.l, x.shift)
		if e != x.e || (s != nil) != (e == api.OK) {
			t.Errorf("New(%v) returns %d, want %d", x, e, x.e)
		}
	}
}

// Promises 17.2 and 17.3.
func TestStep(t *testing.T) {
	s := open(t, 2, api.Cal{Gain: 2 * 65536, Off: 10, Slope: 256}, api.Limits{Low: 0, High: 1000, Rate: 100}, 1)
	if v, ok := s.Last(); v != 0 || ok || s.Stale() {
		t.Error("a new sensor")
	}
	broken := send(t, 7, 3, 5, 0)
	broken[7]++
	for i, x := range []struct {
		b     []byte
		value int64
		e     api.Errno
		last  int64
	}{
		{nil, 0, api.ErrNone, -1},
		{send(t, 8, 0, 1, 0), 0, api.ErrNone, -1},
		{send(t, 7, 0, 100, 5), 215, api.OK, 215},        // 10 + 200 + 5
		{send(t, 7, 1, 110, 5), 225, api.OK, 235},        // half of the way
		{broken, 225, api.ErrSum, 235},                   // the gate misses a tick
		{send(t, 7, 2, 210, 0), 327, api.OK, 430},        // 195 in two ticks
		{send(t, 7, 3, 300, 0), 327, api.ErrRate, 430},   // 180 in one tick
		{send(t, 7, 4, 300, 0), 468, api.OK, 610},        // 180 in two ticks
		{send(t, 7, 5, 500, 0), 468, api.ErrHigh, 610},   // 1010
		{send(t, 7, 6, -10, 0), 468, api.ErrLow, 610},    // -10
		{send(t, 7, 8, 300, 0), 468, api.ErrOrder, 610},  // age 1
		{nil, 468, api.ErrNone, 610},                     // age 2
		{nil, 468, api.ErrStale, 610},                    // age 3
		{[]byte{1, 2}, 468, api.ErrStale, 610},           // instead of ErrLong
		{send(t, 7, 20, 300, 0), 468, api.ErrStale, 610}, // instead of ErrOrder
		{send(t, 7, 21, 300, 0), 539, api.OK, 610},
	} {
		if r := s.Step(x.b); r.Value != x.value || r.Err != x.e {
			t.Fatalf("tick %d returns %v, want %d, %d", i, r, x.value, x.e)
		}
		v, ok := s.Last()
		if ok != (x.last >= 0) || ok && v != x.last || !ok && v != 0 {
			t.Errorf("after tick %d the last value is %d, %v", i, v, ok)
		}
		if s.Stale() != (x.e == api.ErrStale) {
			t.Errorf("after tick %d Stale is %v", i, s.Stale())
		}
	}
	s.Reset()
	if v, ok := s.Last(); v != 0 || ok || s.Stale() {
		t.Error("the state after a reset")
	}
	if r := s.Step(nil); r != (api.Reading{Err: api.ErrNone}) {
		t.Errorf("after a reset: %v", r)
	}
	if r := s.Step(send(t, 7, 99, 1, 0)); r != (api.Reading{Value: 12}) {
		t.Errorf("the first frame after a reset: %v", r)
	}
}

// Promise 17.4.
func TestConsequences(t *testing.T) {
	s := open(t, 5, plain, api.Limits{Low: -5000, High: 5000, Rate: 50}, 3)
	v, least, most, seq := int64(0), int64(0), int64(0), 0
	var previous api.Reading
	for i := range 2000 {
		if i%10 == 9 { // an invalid frame does not change the value
			if r := s.Step([]byte{0xa5, 7, 0, 1, 2, 3, 4, 5}); r.Value != previous.Value || r.Err == api.OK {
				t.Fatalf("tick %d: %v after %v", i, r, previous)
			}
			continue
		}
		v += int64(i*7919%101) - 50
		v = min(max(v, -5000), 5000)
		least, most = min(least, v), max(most, v)
		r := s.Step(send(t, 7, seq, v, 0))
		seq++
		if r.Err != api.OK || r.Value < least || r.Value > most {
			t.Fatalf("tick %d: %v", i, r)
		}
		previous = r
	}
}

func TestNil(t *testing.T) {
	var s *Sensor
	s.Reset()
	if r := s.Step(nil); r != (api.Reading{Err: api.ErrArg}) {
		t.Errorf("Step of nil: %v", r)
	}
	if v, ok := s.Last(); v != 0 || ok || !s.Stale() {
		t.Error("the state of nil")
	}
}
