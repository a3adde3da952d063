package ledger

import (
	"math"
	"math/rand"
	"slices"
	"strconv"
	"testing"

	"aneroid/api"
)

func draw(r *rand.Rand) api.Event {
	return api.Event{Tick: int(int64(r.Uint64()) >> r.Intn(64)), Code: r.Intn(5), Arg: r.Intn(20) - 10}
}

// Promises 31.1, 31.2, 31.3 and 31.4.
func TestLedger(t *testing.T) {
	r := rand.New(rand.NewSource(31))
	var l Ledger
	var kept []api.Event
	for n := range 200 {
		if got := l.Events(); !slices.Equal(got, kept) || l.Total() != n {
			t.Fatalf("after %d events: %v, total %d", n, got, l.Total())
		}
		var each []api.Event
		for i, e := range l.Each() {
			if i != len(each) {
				t.Fatalf("index %d instead of %d", i, len(each))
			}
			each = append(each, e)
		}
		if !slices.Equal(each, kept) {
			t.Fatalf("Each after %d events gives %v", n, each)
		}
		text := ""
		for _, e := range kept {
			text += strconv.Itoa(e.Tick) + " " + strconv.Itoa(e.Code) + " " + strconv.Itoa(e.Arg) + "\n"
		}
		if l.Text() != text {
			t.Fatalf("Text = %q, want %q", l.Text(), text)
		}
		if back, ok := Parse(text); !ok || !slices.Equal(back, kept) {
			t.Fatalf("Parse(%q) = %v, %v", text, back, ok)
		}
		for code := -1; code < 6; code++ {
			count, last, found := 0, api.Event{}, false
			for _, e := range kept {
				if e.Code == code {
					count, last, found = count+1, e, true
				}
			}
			e, ok := l.Last(code)
			if l.Count(code) != count || e != last || ok != found {
				t.Fatalf("code %d: count %d, last %v, %v", code, l.Count(code), e, ok)
			}
		}
		e := draw(r)
		l.Note(e)
		kept = append(kept, e)
		kept = kept[max(len(kept)-32, 0):]
	}
}

// Promise 31.2: iterators can be left and used again; they do not follow later
// events.
func TestEach(t *testing.T) {
	var l Ledger
	l.Note(api.Event{Tick: 1})
	l.Note(api.Event{Tick: 2})
	each := l.Each()
	l.Note(api.Event{Tick: 3})
	for range 2 {
		n := 0
		for range each {
			n++
		}
		if n != 2 {
			t.Errorf("%d events", n)
		}
	}
	for i := range each {
		if i == 0 {
			break
		}
		t.Error("the iterator goes on")
	}
}

func TestMemory(t *testing.T) {
	var l Ledger
	l.Note(api.Event{Tick: 1})
	l.Events()[0].Tick = 9
	if l.Events()[0].Tick != 1 {
		t.Error("Events hands out its own memory")
	}
}

// Promise 31.3.
func TestParse(t *testing.T) {
	for _, x := range []struct {
		s    string
		want []api.Event
	}{
		{"", nil},
		{"1 2 3\n", []api.Event{{Tick: 1, Code: 2, Arg: 3}}},
		{"-1 0 -30\n0 0 0\n", []api.Event{{Tick: -1, Arg: -30}, {}}},
		{"9223372036854775807 -9223372036854775808 0\n", []api.Event{{Tick: math.MaxInt64, Code: math.MinInt64}}},
	} {
		if got, ok := Parse(x.s); !ok || !slices.Equal(got, x.want) {
			t.Errorf("Parse(%q) = %v, %v", x.s, got, ok)
		}
	}
	for _, s := range []string{
		"1 2 3", "\n", " \n", "1 2\n", "1 2 3 4\n", "1  2 3\n", " 1 2 3\n", "1 2 3 \n", "1 2 3\n\n", "\n1 2 3\n", "1 2 3\r\n",
		"01 2 3\n", "-0 2 3\n", "+1 2 3\n", "1 2 x\n", "1_0 2 3\n", "0x1 2 3\n", "1 2 -\n", "1\t2 3\n", "1 2 3\n4 5 6", "1 2 3\n4 5\n",
		"9223372036854775808 0 0\n", "0 -9223372036854775809 0\n", "1 2 3\n00 0 0\n", "1. 2 3\n",
	} {
		if got, ok := Parse(s); ok || len(got) != 0 {
			t.Errorf("Parse(%q) = %v, %v", s, got, ok)
		}
	}
	long := ""
	for range 100 {
		long += "7 8 9\n"
	}
	if got, ok := Parse(long); !ok || len(got) != 100 {
		t.Errorf("Parse of 100 lines gives %d, %v", len(got), ok)
	}
}

func TestNil(t *testing.T) {
	var l *Ledger
	l.Note(api.Event{Code: 1})
	for range l.Each() {
		t.Error("a nil ledger has an event")
	}
	if _, ok := l.Last(1); ok || len(l.Events()) != 0 || l.Total() != 0 || l.Count(1) != 0 || l.Text() != "" {
		t.Error("a nil ledger")
	}
}
