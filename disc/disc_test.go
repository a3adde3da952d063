package disc

import (
	"math"
	"math/bits"
	"math/rand"
	"slices"
	"testing"

	"aneroid/api"
	"aneroid/word"
)

var all = []string{
	"pitot1", "pitot2", "static1", "static2", "miscompare-q", "miscompare-p", "synthetic-q", "synthetic-p",
	"lost-q", "lost-p", "frozen1", "frozen2", "drained1", "drained2", "overflow", "warming", "baro", "stale-aid", "reset",
}

func marks(field uint32) Marks {
	var m Marks
	for i := range m {
		m[i] = field>>i&1 == 1
	}
	return m
}

// Promises 29.1 and 29.3.
func TestPutAndTake(t *testing.T) {
	r := rand.New(rand.NewSource(29))
	seen := map[uint32]bool{}
	for n := range 3000 {
		field := uint32(n)
		if n >= 1024 {
			field = r.Uint32() & (1<<19 - 1)
		}
		if n < 19 {
			field = 1 << n
		}
		number, state := r.Intn(256), r.Intn(4)
		w, e := Put(number, marks(field), state)
		want := uint32(number) | field<<10 | uint32(state)<<29
		if bits.OnesCount32(want)%2 == 0 {
			want |= 1 << 31
		}
		if w != want || e != api.OK {
			t.Fatalf("Put(%d, %x, %d) = %x, %d, want %x", number, field, state, w, e, want)
		}
		if m, s, e := Take(number, w); m != marks(field) || s != state || e != api.OK {
			t.Fatalf("Take(%d, %x) = %v, %d, %d", number, w, m, s, e)
		}
		same, _ := Put(5, marks(uint32(n)), 3)
		if seen[same] {
			t.Fatalf("the word %x occurs twice", same)
		}
		seen[same] = true
	}
}

// Promise 29.1: the errors and their order.
func TestErrors(t *testing.T) {
	for _, x := range [][2]int{{-1, 0}, {256, 0}, {0, -1}, {0, 4}, {math.MinInt, 0}, {0, math.MaxInt}} {
		if w, e := Put(x[0], Marks{}, x[1]); w != 0 || e != api.ErrRange {
			t.Errorf("Put(%d, %d) returns %d", x[0], x[1], e)
		}
	}
	for _, x := range []struct {
		number int
		w      uint32
		e      api.Errno
	}{
		{-1, 0, api.ErrRange}, {256, 0, api.ErrRange}, {math.MaxInt, 1, api.ErrRange},
		{5, 6 | 3<<8, api.ErrSum}, {5, 6, api.ErrSum},
		{5, word.Parity(6 | 3<<8), api.ErrNone},
		{5, word.Parity(5 | 1<<8), api.ErrForm}, {5, word.Parity(5 | 1<<9), api.ErrForm},
		{5, word.Parity(5), api.OK},
	} {
		m, s, e := Take(x.number, x.w)
		if e != x.e || e != api.OK && (m != Marks{} || s != 0) {
			t.Errorf("Take(%d, %x) = %d, want %d", x.number, x.w, e, x.e)
		}
	}
}

// Promises 29.2 and 29.3.
func TestNames(t *testing.T) {
	for i, name := range all {
		if Name(i) != name {
			t.Errorf("Name(%d) = %s", i, Name(i))
		}
		if n, ok := Find(name); n != i || !ok {
			t.Errorf("Find(%s) = %d, %v", name, n, ok)
		}
	}
	for _, i := range []int{-1, 19, math.MinInt, math.MaxInt} {
		if Name(i) != "" {
			t.Errorf("Name(%d) = %s", i, Name(i))
		}
	}
	for _, name := range []string{"", "pitot", "pitot3", "Reset", "reset "} {
		if n, ok := Find(name); n != 0 || ok {
			t.Errorf("Find(%q) = %d, %v", name, n, ok)
		}
	}
	for i := range 19 {
		if !Any(marks(1<<i), i) || Any(marks(1<<19-1-1<<i), i) {
			t.Errorf("Any of flag %d", i)
		}
	}
	if len(Names(Marks{})) != 0 || !slices.Equal(Names(marks(1<<19-1)), all) {
		t.Error("Names of no and of all flags")
	}
	if got := Names(marks(1<<18 | 1<<4 | 1)); !slices.Equal(got, []string{"pitot1", "miscompare-q", "reset"}) {
		t.Errorf("Names = %v", got)
	}
}

// Promise 29.2.
func TestAny(t *testing.T) {
	m := marks(1<<3 | 1<<18)
	for _, x := range []struct {
		l    []int
		want bool
	}{
		{nil, false}, {[]int{3}, true}, {[]int{18}, true}, {[]int{0, 1, 2}, false}, {[]int{0, 18}, true},
		{[]int{-1, 19, 22, math.MinInt, math.MaxInt}, false}, {[]int{-1, 19, 3}, true},
	} {
		if Any(m, x.l...) != x.want {
			t.Errorf("Any(%v) = %v", x.l, !x.want)
		}
	}
}
