package play

import (
	"bytes"
	"encoding/binary"
	"fmt"
	"math"
	"math/rand"
	"reflect"
	"strings"
	"testing"

	"aneroid/adc"
	"aneroid/api"
	"aneroid/conf"
)

func draw(r *rand.Rand) api.Input {
	n := func() int64 { return int64(r.Uint64()) >> r.Intn(64) }
	in := api.Input{Load: n(), Weight: n(), Height: n(), North: n(), East: n(), Baro: n(), Track: r.Intn(65536), Fixed: r.Intn(2) == 0, Reset: r.Intn(2) == 0}
	for i := range in.Frames {
		if r.Intn(2) == 0 {
			in.Frames[i] = make([]byte, 8)
			r.Read(in.Frames[i])
		}
	}
	return in
}

// reference encodes by the library's encoder.
func reference(in api.Input) []byte {
	b := []byte{0}
	if in.Fixed {
		b[0] += 1
	}
	if in.Reset {
		b[0] += 2
	}
	for i, f := range in.Frames {
		if len(f) > 0 {
			b[0] += 4 << i
			b = append(b, f...)
		}
	}
	for _, n := range []int64{in.Load, in.Weight, in.Height, in.North, in.East, in.Baro} {
		b = binary.BigEndian.AppendUint64(b, uint64(n))
	}
	return binary.BigEndian.AppendUint16(b, uint16(in.Track))
}

func inputs(seed int64, n int) []api.Input {
	r := rand.New(rand.NewSource(seed))
	var l []api.Input
	for range n {
		l = append(l, draw(r))
	}
	return l
}

// Promise 34.1.
func TestPut(t *testing.T) {
	for _, in := range inputs(34, 500) {
		if b, e := Put(in); e != api.OK || !bytes.Equal(b, reference(in)) {
			t.Fatalf("Put(%v) = %x, %d", in, b, e)
		}
	}
	for _, x := range []struct {
		in api.Input
		e  api.Errno
	}{
		{api.Input{Frames: [6][]byte{{1}}}, api.ErrLong},
		{api.Input{Frames: [6][]byte{5: make([]byte, 9)}, Track: -1}, api.ErrLong},
		{api.Input{Frames: [6][]byte{2: make([]byte, 7)}}, api.ErrLong},
		{api.Input{Track: -1}, api.ErrRange},
		{api.Input{Track: 65536}, api.ErrRange},
		{api.Input{Track: math.MinInt}, api.ErrRange},
		{api.Input{Track: math.MaxInt}, api.ErrRange},
		{api.Input{Frames: [6][]byte{{}}, Track: 65535}, api.OK},
	} {
		if b, e := Put(x.in); e != x.e || e != api.OK && len(b) != 0 {
			t.Errorf("Put(%v) = %x, %d, want %d", x.in, b, e, x.e)
		}
	}
}

// Promises 34.1, 34.2 and 34.4.
func TestWriteAndRead(t *testing.T) {
	for _, n := range []int{0, 1, 2, 50, 399, 400} {
		l := inputs(int64(n), n)
		b, e := Write(l)
		if e != api.OK {
			t.Fatalf("Write of %d inputs returns %d", n, e)
		}
		var want []byte
		for _, in := range l {
			want = append(want, reference(in)...)
		}
		if !bytes.Equal(b, want) {
			t.Fatalf("Write of %d inputs", n)
		}
		kept := bytes.Clone(b)
		back, at, e := Read(b)
		if e != api.OK || at != 0 || len(back) != n || n > 0 && !reflect.DeepEqual(back, l) {
			t.Fatalf("Read of %d inputs returns %d, %d, %d", n, len(back), at, e)
		}
		for _, in := range back {
			for _, f := range in.Frames {
				clear(f)
			}
		}
		if !bytes.Equal(b, kept) {
			t.Fatal("Read shares memory with its argument")
		}
	}
	for _, x := range []struct {
		l []api.Input
		e api.Errno
	}{
		{inputs(1, 401), api.ErrLong},
		{append(inputs(1, 401), api.Input{Track: -1}), api.ErrLong},
		{[]api.Input{{}, {Track: -1}, {Frames: [6][]byte{{1}}}}, api.ErrRange},
		{[]api.Input{{}, {Frames: [6][]byte{{1}}}, {Track: -1}}, api.ErrLong},
	} {
		if b, e := Write(x.l); e != x.e || len(b) != 0 {
			t.Errorf("Write returns %d, want %d", e, x.e)
		}
	}
}

// Promise 34.2: every premature end.
func TestPremature(t *testing.T) {
	l := inputs(2, 6)
	b, _ := Write(l)
	starts := map[int]int{}
	start := 0
	for _, in := range l {
		size := len(reference(in))
		for i := 1; i < size; i++ {
			starts[start+i] = start
		}
		start += size
	}
	for end := range b {
		got, at, e := Read(b[:end])
		if want, cut := starts[end]; cut && (e != api.ErrForm || at != want || len(got) != 0) {
			t.Errorf("%d bytes: %d inputs, %d, %d", end, len(got), at, e)
		} else if !cut && (e != api.OK || at != 0) {
			t.Errorf("%d bytes: %d, %d", end, at, e)
		}
	}
}

// Promise 34.2: too many inputs.
func TestTooMany(t *testing.T) {
	b, _ := Write(inputs(3, 400))
	more := reference(api.Input{})
	for _, x := range []struct {
		b  []byte
		at int
		e  api.Errno
	}{
		{append(bytes.Clone(b), more...), 0, api.ErrLong},
		{append(append(bytes.Clone(b), more...), 1), 0, api.ErrLong},
		{append(bytes.Clone(b), more[:len(more)-1]...), len(b), api.ErrForm},
		{append(bytes.Clone(b), 0), len(b), api.ErrForm},
	} {
		if l, at, e := Read(x.b); len(l) != 0 || at != x.at || e != x.e {
			t.Errorf("Read returns %d, %d, want %d, %d", at, e, x.at, x.e)
		}
	}
}

// Promises 34.3 and 34.4.
func TestRun(t *testing.T) {
	c := conf.Default()
	l := inputs(4, 60)
	k, _ := adc.New(c)
	var want []api.Output
	text := ""
	for _, in := range l {
		o := k.Step(in)
		want = append(want, o)
		for _, w := range o.Words {
			text += fmt.Sprintf("%08x ", w)
		}
		text += fmt.Sprintf("%08x %d %d\n", o.Discrete, o.Mode[0], o.Mode[1])
	}
	got, e := Run(c, l)
	if e != api.OK || !reflect.DeepEqual(got, want) {
		t.Fatalf("Run returns %d", e)
	}
	b, _ := Write(l)
	if s, e := Script(c, b); e != api.OK || s != text {
		t.Fatalf("Script returns %q, %d", s, e)
	}
	shorter, _ := Write(l[:20])
	if s, e := Script(c, shorter); e != api.OK || !strings.HasPrefix(text, s) || strings.Count(s, "\n") != 20 {
		t.Error("the beginning of a script has other outputs")
	}
	if s, e := Script(c, nil); s != "" || e != api.OK {
		t.Error("no inputs have lines")
	}
	if o, e := Run(c, nil); len(o) != 0 || e != api.OK {
		t.Error("no inputs have outputs")
	}
	if o, e := Run(c, make([]api.Input, 400)); len(o) != 400 || e != api.OK {
		t.Error("400 inputs")
	}
}

// Promise 34.3: the errors and their order.
func TestErrors(t *testing.T) {
	bad := conf.Default()
	bad.Lag = 17
	wrong := conf.Default()
	wrong.Wing = 0
	if o, e := Run(bad, make([]api.Input, 401)); len(o) != 0 || e != api.ErrRange {
		t.Errorf("Run with an invalid configuration returns %d", e)
	}
	if o, e := Run(conf.Default(), make([]api.Input, 401)); len(o) != 0 || e != api.ErrLong {
		t.Errorf("Run with too many inputs returns %d", e)
	}
	for _, x := range []struct {
		c api.Conf
		b []byte
		e api.Errno
	}{
		{bad, []byte{1}, api.ErrForm}, {wrong, nil, api.ErrArg}, {bad, reference(api.Input{}), api.ErrRange},
	} {
		if s, e := Script(x.c, x.b); s != "" || e != x.e {
			t.Errorf("Script returns %q, %d, want %d", s, e, x.e)
		}
	}
}

// Promise 34.3.
func TestLine(t *testing.T) {
	o := api.Output{Words: []uint32{0, 0xabcdef01, 15}, Discrete: 1 << 31, Mode: [2]int{5, 0}}
	if s := Line(o); s != "00000000 abcdef01 0000000f 80000000 5 0" {
		t.Errorf("Line = %q", s)
	}
	if s := Line(api.Output{}); s != "00000000 0 0" {
		t.Errorf("Line of the zero Output = %q", s)
	}
}

// Promise 0.5: every sequence of bytes has a defined result.
func FuzzScript(f *testing.F) {
	b, _ := Write(inputs(5, 3))
	f.Add(b)
	f.Add([]byte{})
	f.Fuzz(func(t *testing.T, b []byte) {
		one, e1 := Script(conf.Default(), b)
		two, e2 := Script(conf.Default(), b)
		if one != two || e1 != e2 {
			t.Error("two runs differ")
		}
	})
}

func TestAnyBytes(t *testing.T) {
	r := rand.New(rand.NewSource(6))
	for range 200 {
		b := make([]byte, r.Intn(400))
		r.Read(b)
		l, at, e := Read(b)
		again, _ := Write(l)
		if e == api.OK && !bytes.Equal(again, b) || e != api.OK && (len(l) != 0 || at > len(b)) {
			t.Fatalf("Read(%x) returns %d, %d", b, at, e)
		}
	}
}
