package bus

import (
	"math"
	"math/rand"
	"slices"
	"testing"

	"aneroid/api"
	"aneroid/word"
)

func random(r *rand.Rand, n int) []Slot {
	var plan []Slot
	for i, number := range r.Perm(256)[:n] {
		period := 1 + r.Intn(40)
		if i == 0 {
			period = 1000
		}
		plan = append(plan, Slot{number, period, r.Intn(period)})
	}
	return plan
}

func bad() [][]Slot {
	r := rand.New(rand.NewSource(1))
	return [][]Slot{
		nil, random(r, 33), {{-1, 1, 0}}, {{256, 1, 0}}, {{1, 0, 0}}, {{1, -1, 0}}, {{1, 1001, 0}}, {{1, 5, 5}}, {{1, 5, -1}},
		{{1, 5, 0}, {2, 5, 0}, {1, 7, 3}}, {{math.MinInt, math.MaxInt, math.MaxInt}}, {{1, math.MinInt, math.MinInt}}, {{1, 5, 0}, {2, 5, 7}},
	}
}

// Promises 46.1 and 46.3.
func TestDue(t *testing.T) {
	r := rand.New(rand.NewSource(46))
	for _, n := range []int{1, 2, 10, 32} {
		plan := random(r, n)
		if !Right(plan) {
			t.Fatalf("%v is valid", plan)
		}
		counts := make([]int, n)
		for tick := range 2000 {
			var want []int
			for i, s := range plan {
				if tick >= s.Phase && (tick-s.Phase)%s.Period == 0 {
					want = append(want, i)
					counts[i]++
				}
			}
			if got := Due(plan, tick); !slices.Equal(got, want) {
				t.Fatalf("Due(%v, %d) = %v, want %v", plan, tick, got, want)
			}
		}
		for i, s := range plan {
			if want := 2000 / s.Period; counts[i] < want || counts[i] > want+1 {
				t.Errorf("%v is due %d times", s, counts[i])
			}
		}
		var load int64
		for _, s := range plan {
			load += int64(1000000 / s.Period)
		}
		if got, ok := Load(plan); got != load/1000 || !ok {
			t.Errorf("Load(%v) = %d, %v", plan, got, ok)
		}
		for _, ticks := range []int{1, 5, 100, 1999, 2000, 2001, math.MaxInt} {
			at, many := 0, 0
			for tick := range min(ticks, 2000) {
				if k := len(Due(plan, tick)); k > many {
					at, many = tick, k
				}
			}
			if a, m := Busiest(plan, ticks); a != at || m != many {
				t.Errorf("Busiest(%v, %d) = %d, %d, want %d, %d", plan, ticks, a, m, at, many)
			}
		}
		for _, x := range []int{-1, math.MinInt} {
			if len(Due(plan, x)) != 0 {
				t.Errorf("Due in tick %d", x)
			}
		}
		for _, ticks := range []int{0, -1, math.MinInt} {
			if a, m := Busiest(plan, ticks); a != 0 || m != 0 {
				t.Errorf("Busiest of %d ticks", ticks)
			}
		}
	}
	slot := []Slot{{1, 5, 2}}
	if len(Due(slot, 2)) != 1 || len(Due(slot, 7)) != 1 || len(Due(slot, 12)) != 1 || len(Due(slot, 0)) != 0 || len(Due(slot, 3)) != 0 {
		t.Error("the example")
	}
	if a, m := Busiest(slot, 2); a != 0 || m != 0 {
		t.Error("Busiest before the first slot is due")
	}
	if len(Due(slot, math.MaxInt)) != 1 || len(Due(slot, math.MaxInt-1)) != 0 {
		t.Error("Due in the last tick")
	}
	// Each quotient is rounded down: ten times 9900 and once 6993.
	uneven := Spread([]int{0, 1, 2, 3, 4, 5, 6, 7, 8, 9}, 101)
	if load, ok := Load(append(uneven, Slot{99, 143, 0})); load != 105 || !ok {
		t.Errorf("Load = %d", load)
	}
	// Both slots are due together for the first time in tick 2000.
	late := []Slot{{0, 999, 2}, {255, 1000, 0}}
	if a, m := Busiest(late, math.MaxInt); !Right(late) || len(Due(late, 2000)) != 2 || a != 0 || m != 1 {
		t.Errorf("Busiest(%v) = %d, %d", late, a, m)
	}
	for i, plan := range bad() {
		load, ok := Load(plan)
		a, m := Busiest(plan, 10)
		w, e := New(plan, 99)
		if Right(plan) || len(Due(plan, 0)) != 0 || load != 0 || ok || a != 0 || m != 0 || w != nil || e != api.ErrArg {
			t.Errorf("plan %d is not valid", i)
		}
	}
}

// Promises 46.1 and 46.3.
func TestSpread(t *testing.T) {
	for _, period := range []int{1, 3, 10, 32, 1000} {
		for n := 1; n <= 32; n++ {
			var numbers []int
			for i := range n {
				numbers = append(numbers, 255-7*i)
			}
			plan := Spread(numbers, period)
			if len(plan) != n {
				t.Fatalf("Spread(%d, %d) has %d slots", n, period, len(plan))
			}
			for i, s := range plan {
				if s != (Slot{255 - 7*i, period, i % period}) {
					t.Errorf("slot %d is %v", i, s)
				}
			}
			if _, many := Busiest(plan, 2000); many > (n+period-1)/period {
				t.Errorf("Spread(%d, %d) has %d slots in one tick", n, period, many)
			}
		}
	}
	for _, x := range []struct {
		numbers []int
		period  int
	}{
		{nil, 5}, {[]int{1}, 0}, {[]int{1}, -1}, {[]int{1}, 1001}, {[]int{1}, math.MinInt}, {[]int{1}, math.MaxInt}, {[]int{1, 1}, 5},
		{[]int{-1}, 5}, {[]int{256}, 5}, {make([]int, 33), 5},
	} {
		if plan := Spread(x.numbers, x.period); len(plan) != 0 {
			t.Errorf("Spread(%v, %d) = %v", x.numbers, x.period, plan)
		}
	}
}

// Promise 46.2.
func TestWatcher(t *testing.T) {
	r := rand.New(rand.NewSource(47))
	for patience := 1; patience <= 10; patience++ {
		plan := random(r, 12)
		kept := slices.Clone(plan)
		w, e := New(plan, patience)
		if w == nil || e != api.OK || w.Tick() != 0 || len(w.Missing()) != 0 {
			t.Fatalf("New returns %d", e)
		}
		plan[0].Number = 999
		plan = kept
		last := map[int]uint32{}
		when := map[int]int{}
		for tick := 1; tick <= 600; tick++ {
			var words []uint32
			strange := 0
			for range r.Intn(4) {
				x := r.Uint32()
				if r.Intn(2) == 0 {
					x = x&^255 | uint32(plan[r.Intn(12)].Number)
				}
				if r.Intn(4) > 0 {
					x = word.Parity(x)
				}
				words = append(words, x)
				if word.Odd(x) && slices.ContainsFunc(plan, func(s Slot) bool { return s.Number == int(x&255) }) {
					last[int(x&255)], when[int(x&255)] = x, tick
				} else {
					strange++
				}
			}
			if got := w.Step(words); got != strange || w.Tick() != tick {
				t.Fatalf("tick %d: %d strange words, want %d", tick, got, strange)
			}
			var missing []int
			for _, s := range plan {
				if tick-when[s.Number] >= patience*s.Period {
					missing = append(missing, s.Number)
				}
			}
			if got := w.Missing(); !slices.Equal(got, missing) {
				t.Fatalf("tick %d: missing %v, want %v", tick, got, missing)
			}
			for number := -1; number <= 256; number++ {
				x, ok := last[number]
				if got, found := w.Word(number); got != x || found != ok {
					t.Fatalf("tick %d: Word(%d) = %x, %v", tick, number, got, found)
				}
			}
		}
	}
	for _, patience := range []int{0, -1, 11, math.MinInt, math.MaxInt} {
		if w, e := New([]Slot{{1, 1, 0}}, patience); w != nil || e != api.ErrRange {
			t.Errorf("New with patience %d returns %d", patience, e)
		}
	}
}

// Promise 46.3: if all due words are transmitted, none is missing.
func TestNoneMissing(t *testing.T) {
	r := rand.New(rand.NewSource(48))
	plan := random(r, 32)
	w, _ := New(plan, 1)
	for tick := 1; tick <= 2500; tick++ {
		var words []uint32
		for _, i := range Due(plan, tick) {
			words = append(words, word.Parity(uint32(plan[i].Number)))
		}
		if strange := w.Step(words); strange != 0 {
			t.Fatalf("tick %d: %d strange words", tick, strange)
		}
		if m := w.Missing(); len(m) != 0 {
			t.Fatalf("tick %d: %v are missing", tick, m)
		}
	}
}

func TestGreatestTick(t *testing.T) {
	w, _ := New([]Slot{{1, 1000, 0}}, 10)
	for range 1000002 {
		w.Step(nil)
	}
	if w.Tick() != 1000000 || len(w.Missing()) != 1 {
		t.Errorf("the tick is %d", w.Tick())
	}
}

func TestNil(t *testing.T) {
	var w *Watcher
	x, ok := w.Word(1)
	if w.Step([]uint32{1}) != 0 || x != 0 || ok || len(w.Missing()) != 0 || w.Tick() != 0 {
		t.Error("a nil watcher")
	}
}
