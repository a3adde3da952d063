package bite

import (
	"math"
	"math/rand"
	"slices"
	"strings"
	"testing"

	"aneroid/api"
)

func plain(name string) Test {
	return Test{Name: name, Signal: 7, Low: -5, High: 5, Settle: 0, Need: 2, Limit: 5}
}

func many(n int) []Test {
	var l []Test
	for i := range n {
		l = append(l, plain("t"+string(rune('a'+i%26))+string(rune('a'+i/26))))
	}
	return l
}

func with(f func(*Test)) []Test {
	t := plain("abc")
	f(&t)
	return []Test{plain("first"), t}
}

// Promise 48.1.
func TestRight(t *testing.T) {
	for i, l := range [][]Test{
		many(1), many(20),
		with(func(t *Test) { t.Name = "abcdefgh" }), with(func(t *Test) { t.Name = "z" }),
		with(func(t *Test) { t.Signal = 0 }), with(func(t *Test) { t.Signal = 1000 }),
		with(func(t *Test) { t.Low, t.High = 3, 3 }), with(func(t *Test) { t.Low, t.High = math.MinInt64, math.MaxInt64 }),
		with(func(t *Test) { t.Settle, t.Need, t.Limit = 100, 100, 200 }), with(func(t *Test) { t.Settle, t.Need, t.Limit = 0, 1, 1 }),
		with(func(t *Test) { t.Limit = 1000 }),
	} {
		sum := 0
		for _, x := range l {
			sum += x.Limit
		}
		r, e := New(l)
		if !Right(l) || Longest(l) != sum || r == nil || e != api.OK {
			t.Fatalf("list %d is valid, New returns %d", i, e)
		}
		for j, result := range r.Results() {
			if j == 0 && result != Running || j > 0 && result != Waiting {
				t.Errorf("list %d: the results are %v", i, r.Results())
			}
		}
	}
	for i, l := range [][]Test{
		nil, many(21), append(many(3), many(1)...),
		with(func(t *Test) { t.Name = "" }), with(func(t *Test) { t.Name = "abcdefghi" }), with(func(t *Test) { t.Name = "aBc" }),
		with(func(t *Test) { t.Name = "a1" }), with(func(t *Test) { t.Name = "a b" }), with(func(t *Test) { t.Name = "\u00e9" }),
		with(func(t *Test) { t.Name = "a\xff" }), with(func(t *Test) { t.Name = "first" }), with(func(t *Test) { t.Name = "`" }), with(func(t *Test) { t.Name = "{" }),
		with(func(t *Test) { t.Signal = -1 }), with(func(t *Test) { t.Signal = 1001 }), with(func(t *Test) { t.Low = 6 }),
		with(func(t *Test) { t.Settle = -1 }), with(func(t *Test) { t.Settle, t.Limit = 101, 1000 }),
		with(func(t *Test) { t.Need = 0 }), with(func(t *Test) { t.Need, t.Limit = 101, 1000 }),
		with(func(t *Test) { t.Limit = 1 }), with(func(t *Test) { t.Limit = 1001 }), with(func(t *Test) { t.Settle, t.Need, t.Limit = 50, 50, 99 }),
		with(func(t *Test) { t.Settle, t.Need, t.Limit = math.MaxInt, math.MaxInt, math.MaxInt }),
	} {
		if r, e := New(l); Right(l) || Longest(l) != 0 || r != nil || e != api.ErrArg {
			t.Errorf("list %d is not valid, New returns %d", i, e)
		}
	}
	if Waiting != 0 || Running != 1 || Passed != 2 || Failed != 3 {
		t.Error("the constants")
	}
}

// Promises 48.2, 48.3 and 48.4, against a model.
func TestRun(t *testing.T) {
	r := rand.New(rand.NewSource(48))
	words := []string{"waiting", "running", "passed", "failed"}
	seen := map[int]int{}
	for round := range 500 {
		l := many(1 + r.Intn(20))
		for i := range l {
			x := &l[i]
			x.Signal, x.Settle, x.Need = r.Intn(1001), r.Intn(6), 1+r.Intn(5)
			x.Limit = x.Settle + x.Need + r.Intn(10)
		}
		run, _ := New(l)
		results := make([]int, len(l))
		results[0] = Running
		at, counted, good := 0, 0, 0
		abort := -1
		if round%5 == 0 {
			abort = r.Intn(50)
		}
		for step := 0; ; step++ {
			if step == abort {
				run.Abort()
				for i := range results {
					if results[i] < Passed {
						results[i] = Failed
					}
				}
				at = len(l)
			}
			text := ""
			for i := range l {
				text += l[i].Name + " " + words[results[i]] + "\n"
			}
			if !slices.Equal(run.Results(), results) || run.Text() != text || run.Done() != (at == len(l)) {
				t.Fatalf("round %d, step %d: %v, want %v", round, step, run.Results(), results)
			}
			signal, ok := run.Signal()
			if at == len(l) {
				if signal != 0 || ok || run.Step(0) || !slices.Equal(run.Results(), results) {
					t.Fatalf("round %d: a run that is done", round)
				}
				break
			}
			if signal != l[at].Signal || !ok {
				t.Fatalf("round %d, step %d: the signal is %d", round, step, signal)
			}
			if step > Longest(l) {
				t.Fatalf("round %d: the run takes too long", round)
			}
			answer := r.Int63n(13) - 6
			counted++
			if counted > l[at].Settle {
				if answer >= -5 && answer <= 5 {
					good++
				} else {
					good = 0
				}
			}
			result := Running
			if good >= l[at].Need {
				result = Passed
			} else if counted >= l[at].Limit {
				result = Failed
			}
			if result != Running {
				results[at] = result
				seen[result]++
				at++
				counted, good = 0, 0
				if at < len(l) {
					results[at] = Running
				}
			}
			if !run.Step(answer) {
				t.Fatalf("round %d, step %d: no step", round, step)
			}
		}
	}
	if seen[Passed] == 0 || seen[Failed] == 0 {
		t.Error("the tests do not both pass and fail")
	}
}

// Promise 48.4.
func TestConsequences(t *testing.T) {
	l := []Test{{Name: "a", Low: 0, High: 9, Settle: 3, Need: 2, Limit: 10}, {Name: "b", Low: math.MinInt64, High: -1, Need: 1, Limit: 4}}
	run, _ := New(l)
	for range 5 {
		run.Step(5)
	}
	if got := run.Results(); !slices.Equal(got, []int{Passed, Running}) {
		t.Errorf("good responses: %v", got)
	}
	for range 4 {
		run.Step(5)
	}
	if got := run.Results(); !slices.Equal(got, []int{Passed, Failed}) || !run.Done() {
		t.Errorf("bad responses: %v", got)
	}
	one, _ := New([]Test{{Name: "x", Low: 1, High: 1, Need: 2, Limit: 2}})
	one.Step(1)
	if one.Done() || !one.Step(1) || !one.Done() || one.Results()[0] != Passed || one.Text() != "x passed\n" {
		t.Error("the example")
	}
}

func TestMemory(t *testing.T) {
	l := many(2)
	run, _ := New(l)
	l[0].Name, l[0].Signal = "changed", 99
	run.Results()[0] = Failed
	if s, _ := run.Signal(); s != 7 || run.Results()[0] != Running || strings.Contains(run.Text(), "changed") {
		t.Error("a run shares memory")
	}
}

func TestNil(t *testing.T) {
	var run *Run
	run.Abort()
	if s, ok := run.Signal(); s != 0 || ok || run.Step(5) || len(run.Results()) != 0 || !run.Done() || run.Text() != "" {
		t.Error("a nil run")
	}
}
