package maint

import (
	"math"
	"math/rand"
	"slices"
	"sort"
	"strconv"
	"testing"

	"aneroid/api"
)

var named = map[int]string{
	1: "pitot1-latched", 2: "pitot2-latched", 3: "static1-latched", 4: "static2-latched", 9: "reset", 10: "mode-q", 11: "mode-p",
}
var modeList = []string{"warming", "dual", "only1", "only2", "synthetic", "lost"}

// want is the message of the definition.
func want(e api.Event) (string, bool) {
	name, ok := named[e.Code]
	if !ok || e.Tick < 0 || e.Tick > 1000000 {
		return "", false
	}
	s := "t" + strconv.Itoa(e.Tick) + " " + name
	if e.Code == 10 || e.Code == 11 {
		if e.Arg < 0 || e.Arg > 5 {
			return "", false
		}
		return s + " " + modeList[e.Arg], true
	}
	return s, e.Arg == 0
}

func draw(r *rand.Rand) api.Event {
	e := api.Event{Tick: r.Intn(100), Code: r.Intn(13), Arg: r.Intn(9) - 1}
	if r.Intn(2) == 0 {
		e.Arg = 0
	}
	switch r.Intn(30) {
	case 0:
		e.Tick = []int{-1, math.MinInt, math.MaxInt, 1000000, 1000001}[r.Intn(5)]
	case 1:
		e.Arg = []int{math.MinInt, math.MaxInt}[r.Intn(2)]
	case 2:
		e.Code = []int{math.MinInt, math.MaxInt, -1}[r.Intn(3)]
	}
	return e
}

func list(seed int64, n int) []api.Event {
	r := rand.New(rand.NewSource(seed))
	var l []api.Event
	for range n {
		l = append(l, draw(r))
	}
	return l
}

// Promises 49.1 and 49.4.
func TestLine(t *testing.T) {
	for code := -2; code < 15; code++ {
		s, ok := Name(code)
		if name, known := named[code]; s != name || ok != known {
			t.Errorf("Name(%d) = %q, %v", code, s, ok)
		}
	}
	var rows []string
	var events []api.Event
	all := list(49, 3000)
	for _, e := range all {
		s, ok := Line(e)
		text, reportable := want(e)
		if !reportable {
			text = ""
		}
		if s != text || ok != reportable {
			t.Fatalf("Line(%v) = %q, %v, want %q, %v", e, s, ok, text, reportable)
		}
		if ok {
			if back, ok := Parse(s); back != e || !ok {
				t.Fatalf("Parse(%q) = %v, %v", s, back, ok)
			}
			rows, events = append(rows, s), append(events, e)
		}
	}
	if got := Report(all); !slices.Equal(got, rows) {
		t.Error("Report")
	}
	if l, at, ok := Read(rows); !slices.Equal(l, events) || at != 0 || !ok {
		t.Error("Read")
	}
	for _, at := range []int{0, 1, 77, len(rows) - 1} {
		wrong := slices.Clone(rows)
		wrong[at] += " "
		wrong[len(wrong)-1] += "x"
		if l, i, ok := Read(wrong); len(l) != 0 || i != at || ok {
			t.Errorf("Read with a wrong row %d returns %d, %v", at, i, ok)
		}
	}
	if l, at, ok := Read(nil); len(l) != 0 || at != 0 || !ok || len(Report(nil)) != 0 {
		t.Error("no rows")
	}
	if s, _ := Line(api.Event{Tick: 5, Code: 10, Arg: 1}); s != "t5 mode-q dual" {
		t.Errorf("the example is %q", s)
	}
}

// Promise 49.1: what is not a message.
func TestParse(t *testing.T) {
	for _, s := range []string{
		"", "t", "t5", "t5 ", "5 reset", "T5 reset", "t05 reset", "t+5 reset", "t-5 reset", "t-0 reset", "t1000001 reset", "t5  reset", " t5 reset",
		"t5 reset ", "t5 Reset", "t5 reset warming", "t5 reset 0", "t5 mode-q", "t5 mode-q ", "t5 mode-q dual ", "t5 mode-q Dual", "t5 mode-q 1",
		"t5 mode-q dual dual", "tt5 reset", "t5 unknown", "t99999999999999999999 reset", "t5\treset", "t5 reset\n", "t1_0 reset", "t5 mode-p  dual", "t5 dual",
	} {
		if e, ok := Parse(s); e != (api.Event{}) || ok {
			t.Errorf("Parse(%q) = %v, %v", s, e, ok)
		}
	}
	for _, s := range []string{"t0 reset", "t1000000 mode-p warming", "t7 static2-latched"} {
		if _, ok := Parse(s); !ok {
			t.Errorf("Parse(%q) fails", s)
		}
	}
}

// Promise 49.2.
func TestCounts(t *testing.T) {
	for seed := range int64(100) {
		l := list(seed, int(seed))
		counts := map[string]*Count{}
		var order []*Count
		for _, e := range l {
			if _, ok := want(e); !ok {
				continue
			}
			name := named[e.Code]
			c := counts[name]
			if c == nil {
				c = &Count{Name: name, First: e.Tick, Last: e.Tick}
				counts[name] = c
				order = append(order, c)
			}
			c.Many++
			c.First, c.Last = min(c.First, e.Tick), max(c.Last, e.Tick)
		}
		sort.Slice(order, func(i, j int) bool {
			if order[i].Many != order[j].Many {
				return order[i].Many > order[j].Many
			}
			return order[i].Name < order[j].Name
		})
		got := Counts(l)
		if len(got) != len(order) {
			t.Fatalf("seed %d: %v", seed, got)
		}
		for i := range got {
			if got[i] != *order[i] {
				t.Fatalf("seed %d: %v at %d, want %v", seed, got[i], i, *order[i])
			}
		}
		kept := slices.Clone(l)
		for _, x := range [][2]int{{10, 60}, {0, 0}, {50, 20}, {math.MinInt, math.MaxInt}, {-1, 1000000}} {
			var want []api.Event
			for _, e := range l {
				if e.Tick >= x[0] && e.Tick <= x[1] {
					want = append(want, e)
				}
			}
			found := Between(l, x[0], x[1])
			if !slices.Equal(found, want) {
				t.Fatalf("Between(%v) = %v", x, found)
			}
			if len(found) > 0 {
				found[0].Code = 77
			}
		}
		if !slices.Equal(l, kept) {
			t.Fatal("an argument was changed")
		}
	}
}

// Promises 49.3 and 49.4.
func TestLasted(t *testing.T) {
	for seed := range int64(200) {
		l := list(seed, 60)
		if seed%2 == 0 {
			slices.SortFunc(l, func(a, b api.Event) int {
				if a.Tick < b.Tick {
					return -1
				}
				if a.Tick > b.Tick {
					return 1
				}
				return 0
			})
		}
		for _, code := range []int{10, 11, 9, 0, math.MinInt} {
			for _, end := range []int{math.MinInt, -1, 0, 50, 99, 100, 1000001, math.MaxInt} {
				var seen []api.Event
				for _, e := range l {
					if _, ok := want(e); !ok || e.Code != code || code < 10 {
						continue
					}
					if len(seen) > 0 && e.Tick < seen[len(seen)-1].Tick {
						break
					}
					seen = append(seen, e)
				}
				var ticks [6]int
				for i, e := range seen {
					if i+1 < len(seen) {
						ticks[e.Arg] += seen[i+1].Tick - e.Tick
					} else if end >= e.Tick {
						ticks[e.Arg] += end - e.Tick
					}
				}
				got := Lasted(l, code, end)
				if got != ticks {
					t.Fatalf("seed %d: Lasted(%d, %d) = %v, want %v", seed, code, end, got, ticks)
				}
				if len(seen) > 0 && end >= seen[len(seen)-1].Tick {
					sum := 0
					for _, n := range got {
						sum += n
					}
					if sum != end-seen[0].Tick {
						t.Fatalf("seed %d: the sum is %d", seed, sum)
					}
				}
			}
		}
	}
	back := []api.Event{{Tick: 5, Code: 10, Arg: 1}, {Tick: 9, Code: 10, Arg: 2}, {Tick: 8, Code: 10, Arg: 3}, {Tick: 20, Code: 10, Arg: 4}}
	if got := Lasted(back, 10, 30); got != [6]int{0, 4, 21, 0, 0, 0} {
		t.Errorf("after a step back: %v", got)
	}
	if got := Lasted(nil, 10, 30); got != [6]int{} {
		t.Errorf("no events: %v", got)
	}
}
