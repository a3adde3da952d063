package modes

import (
	"math"
	"math/rand"
	"testing"

	"aneroid/api"
)

func facts(n int) Facts {
	return Facts{Warm: n&1 != 0, A: n&2 != 0, B: n&4 != 0, S: n&8 != 0, Differ: n&16 != 0}
}

// want is the definition of the requested mode.
func want(f Facts) int {
	if !f.Warm {
		return 0
	}
	if f.A && f.B {
		if !f.Differ {
			return 1
		}
		if f.S {
			return 4
		}
		return 5
	}
	if f.A {
		return 2
	}
	if f.B {
		return 3
	}
	if f.S {
		return 4
	}
	return 5
}

// Promise 25.1.
func TestAsked(t *testing.T) {
	for n := range 32 {
		if Asked(facts(n)) != want(facts(n)) {
			t.Errorf("Asked(%v) = %d, want %d", facts(n), Asked(facts(n)), want(facts(n)))
		}
	}
	for _, patience := range []int{1, 10000} {
		if a, e := New(patience); a == nil || e != api.OK || a.Mode() != Warming || a.Changes() != 0 {
			t.Errorf("New(%d) returns %d", patience, e)
		}
	}
	for _, patience := range []int{0, -1, 10001, math.MinInt, math.MaxInt} {
		if a, e := New(patience); a != nil || e != api.ErrRange {
			t.Errorf("New(%d) returns %d", patience, e)
		}
	}
	if Warming != 0 || Dual != 1 || Only1 != 2 || Only2 != 3 || Synthetic != 4 || Lost != 5 {
		t.Error("the constants")
	}
}

// Promise 25.2, against a model.
func TestStep(t *testing.T) {
	r := rand.New(rand.NewSource(25))
	for _, patience := range []int{1, 2, 3, 7} {
		a, _ := New(patience)
		mode, number, changes := 0, 0, 0
		f := facts(0)
		for i := range 20000 {
			if r.Intn(4) == 0 {
				f = facts(r.Intn(32) | 1&^(r.Intn(20)/19))
			}
			if r.Intn(500) == 0 {
				a.Reset()
				mode, number = 0, 0
				if a.Mode() != Warming {
					t.Fatal("the mode after a reset")
				}
			}
			m := want(f)
			next := m
			if mode == 4 && f.S && m >= 1 && m <= 3 {
				number++
				if number < patience {
					next = 4
				} else {
					number = 0
				}
			} else {
				number = 0
			}
			if next != mode {
				changes++
			}
			mode = next
			if got := a.Step(f); got != mode || a.Mode() != mode || a.Changes() != changes {
				t.Fatalf("patience %d, step %d: mode %d, changes %d, want %d, %d", patience, i, got, a.Changes(), mode, changes)
			}
		}
	}
}

// Promises 25.2 and 25.3: the way back from Synthetic.
func TestPatience(t *testing.T) {
	a, _ := New(3)
	synthetic := Facts{Warm: true, A: true, B: true, S: true, Differ: true}
	dual := Facts{Warm: true, A: true, B: true, S: true}
	if a.Step(dual) != Dual || a.Step(synthetic) != Synthetic {
		t.Fatal("the example")
	}
	for i, x := range []struct {
		f    Facts
		want int
	}{
		{dual, Synthetic}, {dual, Synthetic}, {synthetic, Synthetic},
		{dual, Synthetic}, {Facts{Warm: true, A: true, S: true}, Synthetic}, {dual, Dual},
		{synthetic, Synthetic}, {dual, Synthetic}, {Facts{Warm: true, A: true, B: true}, Dual},
		{synthetic, Synthetic}, {Facts{Warm: true}, Lost}, {Facts{Warm: true, B: true, S: true}, Only2},
		{synthetic, Synthetic}, {Facts{S: true}, Warming}, {dual, Dual},
	} {
		if m := a.Step(x.f); m != x.want {
			t.Errorf("step %d: mode %d, want %d", i, m, x.want)
		}
	}
	before := a.Changes()
	a.Reset()
	if a.Changes() != before || a.Mode() != Warming {
		t.Error("a reset changed the number of changes")
	}
	// A reset also restarts the patience.
	b, _ := New(2)
	b.Step(synthetic)
	b.Step(dual)
	b.Reset()
	b.Step(synthetic)
	if b.Step(dual) != Synthetic || b.Step(dual) != Dual {
		t.Error("the number after a reset")
	}
}

func TestNil(t *testing.T) {
	var a *Automaton
	a.Reset()
	if a.Step(facts(7)) != Lost || a.Mode() != Lost || a.Changes() != 0 {
		t.Error("a nil automaton")
	}
}
