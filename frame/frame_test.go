package frame

import (
	"bytes"
	"math"
	"math/rand"
	"testing"

	"aneroid/api"
)

var valid = []api.Frame{
	{},
	{ID: 255, Seq: 255, Value: 8388607, Temp: 127},
	{ID: 1, Seq: 2, Value: -8388608, Temp: -128},
	{ID: 7, Seq: 200, Value: -1, Temp: -1},
	{ID: 3, Seq: 9, Value: 0x123456, Temp: 20},
}

func reference(f api.Frame) []byte {
	v := uint32(f.Value)
	b := []byte{0xa5, byte(f.ID), byte(f.Seq), byte(v >> 16), byte(v >> 8), byte(v), byte(int8(f.Temp)), 0}
	for (int(b[0])+int(b[1])+int(b[2])+int(b[3])+int(b[4])+int(b[5])+int(b[6])+int(b[7]))%256 != 0 {
		b[7]++
	}
	return b
}

func frames() []api.Frame {
	l := append([]api.Frame(nil), valid...)
	r := rand.New(rand.NewSource(12))
	for range 300 {
		l = append(l, api.Frame{ID: r.Intn(256), Seq: r.Intn(256), Value: r.Int63n(1<<24) - 1<<23, Temp: r.Int63n(256) - 128})
	}
	return l
}

// Promises 12.1 and 12.3.
func TestPutAndTake(t *testing.T) {
	for _, f := range frames() {
		b, e := Put(f)
		if !Right(f) || e != api.OK || !bytes.Equal(b, reference(f)) {
			t.Fatalf("Put(%v) = %x, %d", f, b, e)
		}
		if back, e := Take(b); back != f || e != api.OK {
			t.Errorf("Take(Put(%v)) = %v, %d", f, back, e)
		}
		for i := range b {
			for d := 1; d < 256; d += 50 {
				changed := bytes.Clone(b)
				changed[i] += byte(d)
				want := api.ErrSum
				if i == 0 {
					want = api.ErrForm
				}
				if back, e := Take(changed); e != want || back != (api.Frame{}) {
					t.Errorf("Take(%x) = %v, %d, want %d", changed, back, e, want)
				}
			}
		}
	}
}

// Promise 12.1 for invalid frames and bytes.
func TestInvalid(t *testing.T) {
	for _, f := range []api.Frame{
		{ID: -1}, {ID: 256}, {Seq: -1}, {Seq: 256}, {ID: math.MaxInt}, {Seq: math.MinInt},
		{Value: -8388609}, {Value: 8388608}, {Value: math.MinInt64}, {Value: math.MaxInt64},
		{Temp: -129}, {Temp: 128}, {Temp: math.MinInt64}, {Temp: math.MaxInt64},
	} {
		if b, e := Put(f); Right(f) || len(b) != 0 || e != api.ErrRange {
			t.Errorf("Put(%v) = %x, %d", f, b, e)
		}
	}
	for n := range 20 {
		if n == 8 {
			continue
		}
		if f, e := Take(make([]byte, n)); e != api.ErrLong || f != (api.Frame{}) {
			t.Errorf("Take of %d bytes gives %d", n, e)
		}
	}
	if _, e := Take([]byte{1, 2, 3, 4, 5, 6, 7, 8}); e != api.ErrForm {
		t.Errorf("a wrong first byte and sum give %d", e)
	}
}

// Promise 12.2.
func TestSum(t *testing.T) {
	if Sum([]byte{1, 2, 3}) != 250 || Sum(nil) != 0 || Sum([]byte{128, 128}) != 0 {
		t.Error("Sum")
	}
	b := make([]byte, 1000)
	rand.New(rand.NewSource(3)).Read(b)
	total := int(Sum(b))
	for _, x := range b {
		total += int(x)
	}
	if total%256 != 0 {
		t.Error("the sum is not a multiple of 256")
	}
}

// Promise 12.2.
func TestFind(t *testing.T) {
	frame := reference(valid[4])
	other := reference(valid[1])
	broken := bytes.Clone(frame)
	broken[7]++
	join := func(l ...[]byte) []byte { return bytes.Join(l, nil) }
	for _, x := range []struct {
		b  []byte
		at int
		ok bool
	}{
		{nil, 0, false},
		{frame[:7], 0, false},
		{frame, 0, true},
		{join(frame, other), 0, true},
		{join([]byte{1, 2, 3}, frame), 3, true},
		{join([]byte{0xa5, 0xa5}, frame, other), 2, true},
		{join(broken, other), 8, true},
		{join(broken, frame[:7]), 0, false},
		{join(frame[1:], frame), 7, true},
		{broken, 0, false},
	} {
		if at, ok := Find(x.b); at != x.at || ok != x.ok {
			t.Errorf("Find(%x) = %d, %v, want %d, %v", x.b, at, ok, x.at, x.ok)
		}
	}
}
