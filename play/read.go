package play

import (
	"slices"

	"aneroid/api"
)

// premature is what a reader panics with at a premature end of the bytes.
const premature = "premature end"

// reader takes an input from the start of its bytes.
type reader struct {
	rest []byte
}

// take returns a copy of the next n bytes.
func (r *reader) take(n int) []byte {
	if len(r.rest) < n {
		panic(premature)
	}
	b := slices.Clone(r.rest[:n])
	r.rest = r.rest[n:]
	return b
}

// number returns the next n bytes as a number in two's complement, if n is 8.
func (r *reader) number(n int) int64 {
	var v int64
	for _, b := range r.take(n) {
		v = v<<8 | int64(b)
	}
	return v
}

func (r *reader) input() api.Input {
	var in api.Input
	flags := r.take(1)[0]
	in.Fixed = flags&fixedFlag != 0
	in.Reset = flags&resetFlag != 0
	for i := range in.Frames {
		if flags&(frameFlag<<i) != 0 {
			in.Frames[i] = r.take(api.FrameLen)
		}
	}
	in.Load = r.number(8)
	in.Weight = r.number(8)
	in.Height = r.number(8)
	in.North = r.number(8)
	in.East = r.number(8)
	in.Baro = r.number(8)
	in.Track = int(r.number(2))
	return in
}

// first returns the input at the start of b and the bytes after it; false if b
// ends within it.
func first(b []byte) (in api.Input, rest []byte, ok bool) {
	defer func() {
		if recover() != nil {
			in, rest, ok = api.Input{}, nil, false
		}
	}()
	r := reader{rest: b}
	in = r.input()
	return in, r.rest, true
}

// Read returns the inputs of a script. If one is incomplete, it returns the
// offset at which that begins, and ErrForm; if there are too many, ErrLong.
func Read(b []byte) (l []api.Input, at int, e api.Errno) {
	rest := b
	for len(rest) > 0 {
		in, after, ok := first(rest)
		if !ok {
			return nil, len(b) - len(rest), api.ErrForm
		}
		if len(l) == api.MaxTicks {
			return nil, 0, api.ErrLong
		}
		l = append(l, in)
		rest = after
	}
	return l, 0, api.OK
}
