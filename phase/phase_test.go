package phase

import (
	"math"
	"math/rand"
	"testing"

	"aneroid/api"
)

var speeds = []int64{math.MinInt64, -1, 0, 3999, 4000, 4001, math.MaxInt64}
var heights = []int64{math.MinInt64, -1, 0, 4999, 5000, 5001, 49999, 50000, 50001, 60000, 60001, math.MaxInt64}
var rates = []int64{math.MinInt64, -501, -500, -499, -251, -250, -249, 0, 249, 250, 251, 499, 500, 501, math.MaxInt64}

// want is the definition of the requested phase.
func want(phase int, l Look) int {
	fast, low := l.Cas >= 4000, l.H <= 5000
	up, down, level := l.Rate >= 500, l.Rate <= -500, l.Rate > -250 && l.Rate < 250
	switch phase {
	case 0:
		if fast {
			return 1
		}
	case 1:
		if l.H > 50000 {
			return 2
		}
		if low && !fast {
			return 0
		}
	case 2:
		if level {
			return 3
		}
		if down {
			return 4
		}
	case 3:
		if up {
			return 2
		}
		if down {
			return 4
		}
	case 4:
		if l.H < 50000 {
			return 5
		}
		if level {
			return 3
		}
		if up {
			return 2
		}
	case 5:
		if low && !fast {
			return 0
		}
		if l.H > 60000 {
			return 2
		}
	}
	return phase
}

func looks() []Look {
	var l []Look
	for _, cas := range speeds {
		for _, h := range heights {
			for _, rate := range rates {
				l = append(l, Look{cas, h, rate})
			}
		}
	}
	return l
}

// Promise 50.1.
func TestAsked(t *testing.T) {
	for _, phase := range []int{0, 1, 2, 3, 4, 5, -1, 6, math.MinInt, math.MaxInt} {
		for _, l := range looks() {
			if got := Asked(phase, l); got != want(phase, l) {
				t.Errorf("Asked(%d, %v) = %d, want %d", phase, l, got, want(phase, l))
			}
		}
	}
}

func soon(from, to int) bool {
	if from < 0 || from > 5 || to < 0 || to > 5 || from == to {
		return false
	}
	return to == 1 || to == 5 || to == 0 || to == 2 && (from == 1 || from == 5)
}

// Promise 50.1.
func TestSoonAndName(t *testing.T) {
	for from := -2; from < 8; from++ {
		for to := -2; to < 8; to++ {
			if Soon(from, to) != soon(from, to) {
				t.Errorf("Soon(%d, %d) = %v", from, to, Soon(from, to))
			}
		}
	}
	if Soon(math.MinInt, 0) || Soon(0, math.MaxInt) {
		t.Error("Soon of what is not a phase")
	}
	for i, name := range []string{"ground", "takeoff", "climb", "cruise", "descent", "landing"} {
		if Name(i) != name {
			t.Errorf("Name(%d) = %q", i, Name(i))
		}
	}
	for _, i := range []int{-1, 6, math.MinInt, math.MaxInt} {
		if Name(i) != "" {
			t.Errorf("Name(%d) = %q", i, Name(i))
		}
	}
	if Ground != 0 || Takeoff != 1 || Climb != 2 || Cruise != 3 || Descent != 4 || Landing != 5 {
		t.Error("the constants")
	}
}

// Promises 50.2, 50.3 and 50.4, against a model.
func TestFollower(t *testing.T) {
	all := looks()
	seen := map[[2]int]int{}
	for _, patience := range []int{1, 2, 3, 10, 1000} {
		r := rand.New(rand.NewSource(int64(patience)))
		f, e := New(patience)
		if f == nil || e != api.OK {
			t.Fatalf("New(%d) returns %d", patience, e)
		}
		for range 20 {
			if h, ok := f.Highest(); f.Phase() != Ground || f.Times() != [6]int{} || h != 0 || ok || f.Legs() != 0 {
				t.Fatal("the initial state")
			}
			phase, asked, number, legs := 0, -1, 0, 0
			var times [6]int
			var highest int64
			known := false
			l := all[0]
			for i := range 3000 {
				if r.Intn(4) == 0 {
					l = all[r.Intn(len(all))]
				}
				next := want(phase, l)
				before := phase
				switch {
				case next == phase:
					asked, number = -1, 0
				case soon(phase, next):
					phase = next
				default:
					if next != asked {
						asked, number = next, 0
					}
					number++
					if number >= patience {
						phase = next
					}
				}
				if phase != before {
					asked, number = -1, 0
					seen[[2]int{before, phase}]++
					if before == Landing && phase == Ground {
						legs++
					}
				}
				times[phase]++
				if phase != Ground && (!known || l.H > highest) {
					highest, known = l.H, true
				}
				if got := f.Step(l); got != phase || f.Phase() != phase {
					t.Fatalf("patience %d, step %d: phase %d, want %d", patience, i, got, phase)
				}
				if h, ok := f.Highest(); h != highest || ok != known || f.Times() != times || f.Legs() != legs {
					t.Fatalf("patience %d, step %d: %v, %d, %v, %d", patience, i, f.Times(), h, ok, f.Legs())
				}
			}
			sum := 0
			for _, n := range f.Times() {
				sum += n
			}
			if sum != 3000 {
				t.Errorf("the times add up to %d", sum)
			}
			f.Reset()
		}
	}
	for change := range seen {
		if change[0] == Ground && change[1] != Takeoff || change[1] == Ground && change[0] != Takeoff && change[0] != Landing {
			t.Errorf("the change %v", change)
		}
	}
	if len(seen) != 12 {
		t.Errorf("the changes %v", seen)
	}
	for _, patience := range []int{0, -1, 1001, math.MinInt, math.MaxInt} {
		if f, e := New(patience); f != nil || e != api.ErrRange {
			t.Errorf("New(%d) returns %d", patience, e)
		}
	}
}

// Promise 50.2: a change takes patience consecutive equal requests.
func TestPatience(t *testing.T) {
	f, _ := New(3)
	level, down, steep := Look{5000, 70000, 0}, Look{5000, 70000, -600}, Look{5000, 70000, 600}
	for i, x := range []struct {
		l    Look
		want int
	}{
		{Look{Cas: 4000}, Takeoff}, {level, Climb},
		{level, Climb}, {level, Climb}, {down, Climb}, {level, Climb}, {level, Climb}, {level, Cruise},
		{down, Cruise}, {down, Cruise}, {level, Cruise}, {down, Cruise}, {down, Cruise}, {down, Descent},
		{steep, Descent}, {level, Descent}, {level, Descent}, {level, Cruise},
	} {
		if got := f.Step(x.l); got != x.want {
			t.Errorf("step %d: %d, want %d", i, got, x.want)
		}
	}
}

// Promise 50.4: a repeated sample leads to a phase in which it requests none.
func TestRepeated(t *testing.T) {
	f, _ := New(2)
	for _, l := range looks() {
		for start := range 6 {
			f.Reset()
			f.state.phase = start
			for range 30 {
				f.Step(l)
			}
			if Asked(f.Phase(), l) != f.Phase() {
				t.Errorf("%v from %d ends in %d", l, start, f.Phase())
			}
		}
	}
}

func TestNil(t *testing.T) {
	var f *Follower
	f.Reset()
	if h, ok := f.Highest(); f.Step(Look{Cas: 9000}) != Ground || f.Phase() != Ground || f.Times() != [6]int{} || h != 0 || ok || f.Legs() != 0 {
		t.Error("a nil follower")
	}
}
