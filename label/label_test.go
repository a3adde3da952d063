package label

import (
	"math"
	"math/rand"
	"slices"
	"testing"

	"aneroid/api"
	"aneroid/word"
)

func many(n int) []api.Label {
	var l []api.Label
	for i := range n {
		l = append(l, api.Label{Number: 10 + i, Bits: 1 + i%18, Scale: int64(1 + i*i), Signed: i%2 == 0})
	}
	return l
}

// Promise 30.1.
func TestRight(t *testing.T) {
	for n := range 15 {
		if Right(many(n)) != (n >= 1 && n <= 12) {
			t.Errorf("a set of %d labels", n)
		}
	}
	for i := range 12 {
		for j := range i {
			l := many(12)
			l[i].Number = l[j].Number
			if Right(l) {
				t.Errorf("labels %d and %d have the same Number", i, j)
			}
		}
		l := many(12)
		l[i].Bits = 0
		if Right(l) {
			t.Errorf("label %d is not valid", i)
		}
	}
}

func TestStandard(t *testing.T) {
	want := [][4]int64{
		{131, 18, 16, 1}, {132, 18, 16, 1}, {138, 18, 1, 1}, {134, 18, 1, 0}, {133, 15, 1, 0}, {136, 18, 1, 0},
		{137, 18, 4, 0}, {139, 18, 4, 0}, {145, 18, 1, 1}, {205, 18, 1, 0}, {206, 16, 1, 0},
	}
	l := Standard()
	if len(l) != 11 || !Right(l) {
		t.Fatalf("%d labels", len(l))
	}
	for i, x := range l {
		w := want[i]
		if x != (api.Label{Number: int(w[0]), Bits: int(w[1]), Scale: w[2], Signed: w[3] == 1}) {
			t.Errorf("label %d is %v", i, x)
		}
	}
	l[0].Bits = 3
	if Standard()[0].Bits != 18 {
		t.Error("Standard hands out shared memory")
	}
}

// Promises 30.2, 30.3 and 30.4.
func TestWordsAndRead(t *testing.T) {
	r := rand.New(rand.NewSource(30))
	for _, l := range [][]api.Label{Standard(), many(1), many(12)} {
		for range 300 {
			v, states := make([]int64, len(l)), make([]int, len(l))
			for i := range l {
				v[i], states[i] = int64(r.Uint64())>>(20+r.Intn(44)), r.Intn(4)
			}
			words, clipped, e := Words(l, v, states)
			if e != api.OK || len(words) != len(l) || len(clipped) != len(l) {
				t.Fatalf("Words returns %d", e)
			}
			back, backStates, e := Read(l, words)
			if e != api.OK || !slices.Equal(states, backStates) || len(back) != len(l) {
				t.Fatalf("Read returns %d", e)
			}
			for i := range l {
				w, c, _ := word.Put(l[i], 0, v[i], states[i])
				if words[i] != w || clipped[i] != c {
					t.Fatalf("word %d is %x, %v, want %x, %v", i, words[i], clipped[i], w, c)
				}
				if n, _, _, _ := word.Take(l[i], w); back[i] != n {
					t.Fatalf("value %d is %d, want %d", i, back[i], n)
				}
				if !c && v[i] < 1<<38 && v[i] > -1<<38 && max(v[i]-back[i], back[i]-v[i])*2 > l[i].Scale {
					t.Fatalf("value %d is %d instead of %d", i, back[i], v[i])
				}
				if at, ok := Find(l, w); at != i || !ok {
					t.Fatalf("Find(%x) = %d, %v", w, at, ok)
				}
			}
		}
	}
}

// Promises 30.2 and 30.3: the errors and their order.
func TestErrors(t *testing.T) {
	twice := many(2)
	twice[1].Number = twice[0].Number
	good := many(2)
	for _, x := range []struct {
		l      []api.Label
		v      []int64
		states []int
		e      api.Errno
	}{
		{nil, nil, nil, api.ErrArg},
		{twice, nil, []int{9}, api.ErrArg},
		{good, []int64{1}, []int{9, 9}, api.ErrLong},
		{good, []int64{1, 2}, []int{1}, api.ErrLong},
		{good, []int64{1, 2, 3}, []int{1, 2, 3}, api.ErrLong},
		{good, []int64{1, 2}, []int{1, 4}, api.ErrRange},
		{good, []int64{1, 2}, []int{-1, 1}, api.ErrRange},
		{good, []int64{1, 2}, []int{math.MinInt, math.MaxInt}, api.ErrRange},
		{good, []int64{math.MinInt64, math.MaxInt64}, []int{0, 3}, api.OK},
	} {
		words, clipped, e := Words(x.l, x.v, x.states)
		if e != x.e || e != api.OK && (len(words) != 0 || len(clipped) != 0) {
			t.Errorf("Words(%v) returns %d", x, e)
		}
	}
	words, _, _ := Words(good, []int64{1, 2}, []int{0, 3})
	for _, x := range []struct {
		l []api.Label
		w []uint32
		e api.Errno
	}{
		{nil, words, api.ErrArg},
		{twice, nil, api.ErrArg},
		{good, words[:1], api.ErrLong},
		{good, append(slices.Clone(words), 1), api.ErrLong},
		{good, []uint32{words[0], words[1] ^ 1}, api.ErrSum},
		{good, []uint32{words[1], words[0] ^ 1}, api.ErrNone},
		{good, []uint32{word.Parity(10 | 1<<10), words[0]}, api.ErrForm},
		{good, words, api.OK},
	} {
		v, states, e := Read(x.l, x.w)
		if e != x.e || e != api.OK && (len(v) != 0 || len(states) != 0) {
			t.Errorf("Read(%v) returns %d", x, e)
		}
	}
}

// Promise 30.1.
func TestFind(t *testing.T) {
	twice := append(many(3), api.Label{Number: 11})
	for _, x := range []struct {
		w  uint32
		at int
		ok bool
	}{{11, 1, true}, {11 | 1<<31 | 5<<8, 1, true}, {10, 0, true}, {13, 0, false}, {0, 0, false}} {
		if at, ok := Find(twice, x.w); at != x.at || ok != x.ok {
			t.Errorf("Find(%x) = %d, %v", x.w, at, ok)
		}
	}
	if at, ok := Find(nil, 5); at != 0 || ok {
		t.Error("Find in an empty set")
	}
	if at, ok := Find([]api.Label{{Number: -251}, {Number: 261}}, 5); at != 0 || ok {
		t.Error("Find of a Number that is no byte")
	}
}
