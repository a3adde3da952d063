package signs

import (
	"math"
	"math/rand"
	"testing"

	"aneroid/api"
)

const limit = 1<<39 - 1

var good = []Watch{
	{Ticks: 1},
	{Eps: 0, Move: 5, Ticks: 2},
	{Eps: 1 << 30, Move: 1 << 30, Ticks: 10000, Floor: limit, High: limit},
	{Eps: 16, Move: 64, Ticks: 5, Floor: 64, High: 640},
	{Eps: 3, Move: 0, Ticks: 3, Floor: -limit, High: -limit},
}

func open(t *testing.T, w Watch) *Signs {
	t.Helper()
	s, e := New(w)
	if s == nil || e != api.OK {
		t.Fatalf("New(%v) returns %d", w, e)
	}
	return s
}

// Promise 23.1.
func TestRight(t *testing.T) {
	for _, w := range good {
		if a, b := open(t, w).Age(); !Right(w) || a != 0 || b != 0 {
			t.Errorf("%v is valid", w)
		}
	}
	for _, w := range []Watch{
		{}, {Ticks: -1}, {Ticks: 10001}, {Eps: -1, Ticks: 1}, {Eps: 1<<30 + 1, Ticks: 1}, {Move: -1, Ticks: 1}, {Move: 1<<30 + 1, Ticks: 1},
		{Ticks: 1, Floor: limit + 1}, {Ticks: 1, Floor: -limit - 1}, {Ticks: 1, High: limit + 1}, {Ticks: 1, High: -limit - 1},
		{Ticks: math.MinInt}, {Ticks: 1, High: math.MinInt64}, {Eps: math.MaxInt64, Ticks: 1},
	} {
		if s, e := New(w); Right(w) || s != nil || e != api.ErrRange {
			t.Errorf("New(%v) returns %d", w, e)
		}
	}
}

// model is promise 23.2, literally.
type model struct {
	w             Watch
	anchor        bool
	value, beside int64
	still, low    int
}

func (m *model) step(v, against int64) int {
	clip := func(n int64) int64 { return min(max(n, -limit), limit) }
	differ := func(a, b int64) int64 { return max(a, b) - min(a, b) }
	v, against = clip(v), clip(against)
	if !m.anchor || differ(v, m.value) > m.w.Eps {
		m.anchor, m.value, m.beside, m.still = true, v, against, 0
	} else {
		m.still++
	}
	if v < m.w.Floor && against >= m.w.High {
		m.low++
	} else {
		m.low = 0
	}
	signs := 0
	if m.still >= m.w.Ticks && differ(against, m.beside) > m.w.Move {
		signs++
	}
	if m.low >= m.w.Ticks {
		signs += 2
	}
	return signs
}

// Promises 23.2 and 23.3.
func TestStep(t *testing.T) {
	r := rand.New(rand.NewSource(23))
	seen := [4]int{}
	for _, w := range good {
		s := open(t, w)
		for range 5 {
			m := model{w: w}
			v, against := int64(0), int64(0)
			for i := range 2000 {
				switch r.Intn(30) {
				case 0:
					v = []int64{math.MinInt64, math.MaxInt64, w.Floor - 1, w.Floor}[r.Intn(4)]
				case 1:
					against = []int64{math.MinInt64, math.MaxInt64, w.High - 1, w.High}[r.Intn(4)]
				case 2, 3:
					v = r.Int63n(200) - 50
				case 4, 5:
					against = r.Int63n(1000)
				}
				want := m.step(v, against)
				got := s.Step(v, against)
				if still, low := s.Age(); got != want || still != m.still || low != m.low {
					t.Fatalf("%v, step %d: %d, ages %d, %d, want %d, %d, %d", w, i, got, still, low, want, m.still, m.low)
				}
				seen[got]++
			}
			s.Forget()
			if a, b := s.Age(); a != 0 || b != 0 {
				t.Error("Forget leaves an age")
			}
		}
	}
	for i, n := range seen {
		if n == 0 {
			t.Errorf("the signs %d never occurred", i)
		}
	}
}

func TestEdges(t *testing.T) {
	s := open(t, Watch{Move: 5, Ticks: 2})
	if s.Step(7, 0) != 0 || s.Step(7, 9) != 0 || s.Step(7, 9) != Frozen || s.Step(7, 5) != 0 || s.Step(7, 6) != Frozen {
		t.Error("the example")
	}
	s.Forget()
	if s.Step(7, 9) != 0 || s.Step(7, 9) != 0 || s.Step(7, 9) != 0 {
		t.Error("Forget leaves the anchor")
	}
	if Frozen != 1 || Drained != 2 {
		t.Error("the constants")
	}
	low := open(t, Watch{Ticks: 1, Floor: 5})
	for range 1000002 {
		low.Step(0, 0)
	}
	if a, b := low.Age(); a != 1000000 || b != 1000000 {
		t.Errorf("the greatest ages are %d, %d", a, b)
	}
}

// Promise 23.4.
func TestConsequences(t *testing.T) {
	s := open(t, Watch{Eps: 16, Move: 64, Ticks: 3, Floor: 100, High: 50})
	for i := range int64(500) {
		if s.Step(100+i*17, i*1000) != 0 {
			t.Fatal("a value that changes, never below Floor, has a sign")
		}
	}
	s.Forget()
	for i := range int64(500) {
		if s.Step(200, 1000+i%64) != 0 {
			t.Fatal("frozen although the reference value stays within Move")
		}
	}
}

func TestNil(t *testing.T) {
	var s *Signs
	s.Forget()
	if a, b := s.Age(); s.Step(1, 2) != 0 || a != 0 || b != 0 {
		t.Error("nil Signs")
	}
}
