package tally

import (
	"math"
	"math/rand"
	"testing"

	"aneroid/api"
)

var good = []api.Count{
	{Up: 1, Down: 0, Set: 1, Most: 1},
	{Up: 1000, Down: 1000, Set: 100000, Most: 100000},
	{Up: 2, Down: 1, Set: 20, Most: 40},
	{Up: 2, Down: 1, Set: 4, Most: 9},
	{Up: 3, Down: 7, Set: 10, Most: 10},
	{Up: 1000, Down: 1, Set: 1, Most: 100000},
	{Up: 7, Down: 0, Set: 49, Most: 50},
}

// Promise 22.1.
func TestRight(t *testing.T) {
	for _, c := range good {
		if u, e := New(c); !Right(c) || u == nil || e != api.OK || u.Number() != 0 || u.Latched() {
			t.Errorf("New(%v) returns %d", c, e)
		}
	}
	for _, c := range []api.Count{
		{}, {Up: 0, Down: 1, Set: 4, Most: 9}, {Up: -1, Down: 1, Set: 4, Most: 9}, {Up: 1001, Down: 1, Set: 4, Most: 9}, {Up: 2, Down: -1, Set: 4, Most: 9}, {Up: 2, Down: 1001, Set: 4, Most: 9}, {Up: 2, Down: 1, Set: 0, Most: 9},
		{Up: 2, Down: 1, Set: 100001, Most: 100001}, {Up: 2, Down: 1, Set: 4, Most: 3}, {Up: 2, Down: 1, Set: 4, Most: 100001}, {Up: 2, Down: 1, Set: math.MinInt, Most: math.MaxInt}, {Up: math.MaxInt, Down: 0, Set: 1, Most: 1},
	} {
		if u, e := New(c); Right(c) || u != nil || e != api.ErrRange || Ticks(c) != 0 {
			t.Errorf("New(%v) returns %d", c, e)
		}
	}
}

// Promises 22.2 and 22.4.
func TestStep(t *testing.T) {
	r := rand.New(rand.NewSource(22))
	for _, c := range good {
		u, _ := New(c)
		for range 20 {
			number, latched, bads := 0, false, 0
			rate := 1 + r.Intn(9)
			for i := range 300 {
				bad := r.Intn(10) < rate
				if bad {
					number = min(number+c.Up, c.Most)
					bads++
				} else {
					number = max(number-c.Down, 0)
				}
				latched = latched || number >= c.Set
				if got := u.Step(bad); got != latched || u.Latched() != latched || u.Number() != number {
					t.Fatalf("%v, step %d: %v, %d, want %v, %d", c, i, got, u.Number(), latched, number)
				}
				if c.Up*bads < c.Set && latched {
					t.Fatalf("%v is latched after %d bad steps", c, bads)
				}
			}
			u.Clear()
			if u.Number() != 0 || u.Latched() {
				t.Errorf("%v after Clear", c)
			}
		}
	}
}

// Promises 22.3 and 22.4.
func TestTicks(t *testing.T) {
	for _, c := range good {
		u, _ := New(c)
		n := 0
		for !u.Latched() {
			u.Step(true)
			n++
		}
		if Ticks(c) != n {
			t.Errorf("Ticks(%v) = %d, want %d", c, Ticks(c), n)
		}
		u.Clear()
		u.Step(true)
		u.Step(false)
		for range n {
			u.Step(true)
		}
		if !u.Latched() {
			t.Errorf("%v is not latched after %d bad steps", c, n)
		}
		for range 200 {
			u.Step(false)
		}
		if !u.Latched() {
			t.Errorf("%v: good steps removed the latch", c)
		}
	}
}

func TestNil(t *testing.T) {
	var u *Tally
	u.Clear()
	if u.Step(true) || u.Number() != 0 || u.Latched() {
		t.Error("a nil tally")
	}
}
