package link

import (
	"math"
	"testing"

	"aneroid/api"
	"aneroid/frame"
)

func bytesOf(t *testing.T, id, seq int, value int64) []byte {
	t.Helper()
	b, e := frame.Put(api.Frame{ID: id, Seq: seq, Value: value, Temp: 3})
	if e != api.OK {
		t.Fatal(e)
	}
	return b
}

func open(t *testing.T, id, patience int) *Link {
	t.Helper()
	l, e := New(id, patience)
	if e != api.OK || l == nil {
		t.Fatalf("New(%d, %d) returns %d", id, patience, e)
	}
	return l
}

// Promise 13.1.
func TestNew(t *testing.T) {
	for _, x := range [][2]int{{0, 0}, {255, 1000}, {7, 5}} {
		open(t, x[0], x[1])
	}
	for _, x := range [][2]int{{-1, 5}, {256, 5}, {1, -1}, {1, 1001}, {math.MinInt, 0}, {0, math.MaxInt}} {
		if l, e := New(x[0], x[1]); l != nil || e != api.ErrRange {
			t.Errorf("New(%d, %d) returns %d", x[0], x[1], e)
		}
	}
}

type expect struct {
	b              []byte
	e              api.Errno
	age, last      int
	taken, refused int
}

// Promises 13.2 and 13.3: each kind of tick, with the state after it.
func TestStep(t *testing.T) {
	l := open(t, 9, 3)
	if _, ok := l.Last(); ok || l.Age() != 0 || l.Stale() {
		t.Error("a new link")
	}
	broken := bytesOf(t, 9, 13, 5)
	broken[7]++
	for i, x := range []expect{
		{nil, api.ErrNone, 1, -1, 0, 0},
		{[]byte{}, api.ErrNone, 2, -1, 0, 0},
		{bytesOf(t, 8, 1, 5), api.ErrNone, 3, -1, 0, 1},
		{bytesOf(t, 9, 200, 5), api.OK, 0, 200, 1, 1},
		{bytesOf(t, 9, 201, 6), api.OK, 0, 201, 2, 1},
		{bytesOf(t, 9, 201, 7), api.ErrOrder, 1, 201, 2, 2},
		{bytesOf(t, 9, 250, 7), api.ErrOrder, 2, 250, 2, 3},
		{bytesOf(t, 9, 251, 7), api.OK, 0, 251, 3, 3},
		{[]byte{1}, api.ErrLong, 1, 251, 3, 4},
		{make([]byte, 8), api.ErrForm, 2, 251, 3, 5},
		{broken, api.ErrSum, 3, 251, 3, 6},
		{nil, api.ErrNone, 4, 251, 3, 6},
		{bytesOf(t, 8, 252, 7), api.ErrNone, 5, 251, 3, 7},
		{bytesOf(t, 9, 252, 7), api.OK, 0, 252, 4, 7},
		{bytesOf(t, 9, 255, 7), api.ErrOrder, 1, 255, 4, 8},
		{bytesOf(t, 9, 0, 7), api.OK, 0, 0, 5, 8},
	} {
		f, e := l.Step(x.b)
		if e != x.e {
			t.Fatalf("tick %d returns %d, want %d", i, e, x.e)
		}
		want, _ := frame.Take(x.b)
		if e != api.OK {
			want = api.Frame{}
		}
		if f != want {
			t.Errorf("tick %d returns the frame %v, want %v", i, f, want)
		}
		last, ok := l.Last()
		if ok != (x.last >= 0) || ok && last.Seq != x.last || !ok && last != (api.Frame{}) {
			t.Errorf("tick %d: the last frame is %v, %v", i, last, ok)
		}
		if l.Age() != x.age || l.Stale() != (x.age > 3) {
			t.Errorf("tick %d: age %d, want %d", i, l.Age(), x.age)
		}
		if taken, refused := l.Counts(); taken != x.taken || refused != x.refused {
			t.Errorf("tick %d: counts %d, %d", i, taken, refused)
		}
	}
}

// Promise 13.3: a reset keeps the numbers only.
func TestReset(t *testing.T) {
	l := open(t, 9, 3)
	l.Step(bytesOf(t, 9, 4, 5))
	l.Step([]byte{1})
	l.Reset()
	if f, ok := l.Last(); ok || f != (api.Frame{}) || l.Age() != 0 {
		t.Error("the state after a reset")
	}
	if taken, refused := l.Counts(); taken != 1 || refused != 1 {
		t.Error("a reset changed the counts")
	}
	if _, e := l.Step(bytesOf(t, 9, 77, 5)); e != api.OK {
		t.Errorf("the first frame after a reset returns %d", e)
	}
}

// Promise 13.4.
func TestConsequences(t *testing.T) {
	l := open(t, 0, 1)
	for i := range 600 {
		if _, e := l.Step(bytesOf(t, 0, i%256, int64(i))); e != api.OK || l.Stale() {
			t.Fatalf("frame %d in order returns %d", i, e)
		}
	}
	l.Step(nil)
	if l.Stale() {
		t.Error("stale after one tick with patience 1")
	}
	l.Step(nil)
	if !l.Stale() {
		t.Error("not stale after two ticks with patience 1")
	}
}

func TestGreatestAge(t *testing.T) {
	l := open(t, 0, 1000)
	for range 1000002 {
		l.Step(nil)
	}
	if l.Age() != 1000000 {
		t.Errorf("the age is %d", l.Age())
	}
}

func TestNil(t *testing.T) {
	var l *Link
	if f, e := l.Step([]byte{1}); e != api.ErrArg || f != (api.Frame{}) {
		t.Error("Step of nil")
	}
	l.Reset()
	if _, ok := l.Last(); ok || l.Age() != 0 || !l.Stale() {
		t.Error("the state of nil")
	}
	if a, b := l.Counts(); a != 0 || b != 0 {
		t.Error("Counts of nil")
	}
}
