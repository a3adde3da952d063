package kalman

import (
	"math"
	"math/big"
	"math/rand"
	"testing"

	"aneroid/api"
	"aneroid/matrix"
)

const top = 1 << 36

// Promise 41.1.
func TestNew(t *testing.T) {
	for _, x := range []struct {
		start, doubt matrix.Vector
		gate         int64
	}{
		{matrix.Vector{}, matrix.Vector{}, 1}, {matrix.Vector{top, -top, 5}, matrix.Vector{0, top, 7}, top},
	} {
		k, e := New(x.start, x.doubt, x.gate)
		if k == nil || e != api.OK || k.State() != x.start || k.Doubt() != matrix.Diagonal(x.doubt) {
			t.Fatalf("New(%v) returns %d", x, e)
		}
		if a, b := k.Counts(); a != 0 || b != 0 {
			t.Error("the counts of a new estimator")
		}
	}
	for _, x := range []struct {
		start, doubt matrix.Vector
		gate         int64
	}{
		{gate: 0}, {gate: -1}, {gate: top + 1}, {gate: math.MinInt64},
		{doubt: matrix.Vector{0, -1, 0}, gate: 1}, {doubt: matrix.Vector{0, 0, top + 1}, gate: 1},
		{start: matrix.Vector{top + 1}, gate: 1}, {start: matrix.Vector{0, 0, -top - 1}, gate: 1}, {start: matrix.Vector{0, math.MinInt64}, gate: 1},
	} {
		if k, e := New(x.start, x.doubt, x.gate); k != nil || e != api.ErrRange {
			t.Errorf("New(%v) returns %d", x, e)
		}
	}
}

// fit is promise 2.2 with big integers, for a positive divisor.
func fit(a, b, c int64) int64 {
	n := new(big.Int).Mul(big.NewInt(a), big.NewInt(b))
	n.Div(n, big.NewInt(c))
	if n.CmpAbs(big.NewInt(api.Max)) > 0 {
		return api.Max * int64(n.Sign())
	}
	return n.Int64()
}

func clipped(n int64) int64 { return min(max(n, -top), top) }

// model follows promises 41.2 and 41.3.
type model struct {
	state          matrix.Vector
	doubt          matrix.Matrix
	gate           int64
	taken, refused int
}

func (m *model) predict(noise matrix.Vector) {
	m.doubt = matrix.Add(m.doubt, matrix.Diagonal(noise))
	for i := range 3 {
		m.doubt[i][i] = min(m.doubt[i][i], 1<<38)
	}
}

func (m *model) update(x Measurement) api.Errno {
	e := x.Z - matrix.Dot(x.H, m.state)
	v := matrix.Apply(m.doubt, x.H)
	s := max(matrix.Dot(x.H, v), 0) + x.Noise
	if e > m.gate || -e > m.gate {
		m.refused++
		return api.ErrHigh
	}
	var g matrix.Vector
	for i := range 3 {
		g[i] = clipped(fit(v[i], 1<<20, s))
	}
	for i := range 3 {
		m.state[i] = clipped(min(max(m.state[i]+fit(g[i], e, 1<<20), -api.Max), api.Max))
	}
	m.doubt = matrix.Sub(m.doubt, matrix.Outer(g, v))
	for i := range 3 {
		m.doubt[i][i] = max(m.doubt[i][i], 0)
	}
	for i := range 3 {
		for j := range i {
			m.doubt[i][j] = m.doubt[j][i]
		}
	}
	m.taken++
	return api.OK
}

// Promises 41.2, 41.3 and 41.4.
func TestFilter(t *testing.T) {
	for seed := range int64(40) {
		r := rand.New(rand.NewSource(seed))
		size := uint(r.Intn(30))
		draw := func(most int64) int64 { return r.Int63n(2*most+1) - most }
		start := matrix.Vector{draw(top >> size), draw(top >> size), draw(top >> size)}
		doubt := matrix.Vector{r.Int63n(top>>size + 1), r.Int63n(top>>size + 1), r.Int63n(top>>size + 1)}
		gate := 1 + r.Int63n(top)
		k, _ := New(start, doubt, gate)
		m := &model{state: start, doubt: matrix.Diagonal(doubt), gate: gate}
		for i := range 200 {
			if r.Intn(3) == 0 {
				noise := matrix.Vector{r.Int63n(top>>size + 1), r.Int63n(top>>size + 1), r.Int63n(top>>size + 1)}
				m.predict(noise)
				if e := k.Predict(noise); e != api.OK {
					t.Fatalf("Predict returns %d", e)
				}
			}
			x := Measurement{H: matrix.Vector{draw(1 << 24 >> r.Intn(20)), draw(1 << 24 >> r.Intn(20)), draw(1 << 24 >> r.Intn(20))}, Z: draw(top >> r.Intn(30)), Noise: 1 + r.Int63n(top>>r.Intn(36))}
			before := [2]any{k.State(), k.Doubt()}
			if z, ok := k.Expect(x); z != matrix.Dot(x.H, m.state) || !ok || before != [2]any{k.State(), k.Doubt()} {
				t.Fatalf("Expect(%v) = %d, %v", x, z, ok)
			}
			want := m.update(x)
			if e := k.Update(x); e != want || k.State() != m.state || k.Doubt() != m.doubt {
				t.Fatalf("seed %d, step %d: Update(%v) returns %d, want %d; %v, want %v", seed, i, x, e, want, k.State(), m.state)
			}
			if a, b := k.Counts(); a != m.taken || b != m.refused {
				t.Fatalf("the counts are %d, %d", a, b)
			}
			d := k.Doubt()
			if !matrix.Symmetric(d) || d[0][0] < 0 || d[1][1] < 0 || d[2][2] < 0 {
				t.Fatalf("the covariance is %v", d)
			}
		}
	}
}

// Promises 41.2, 41.3 and 41.4: what is not valid changes nothing.
func TestErrors(t *testing.T) {
	k, _ := New(matrix.Vector{1, 2, 3}, matrix.Vector{4, 5, 6}, 100)
	for _, noise := range []matrix.Vector{{-1}, {0, top + 1}, {0, 0, math.MinInt64}, {math.MaxInt64}} {
		if e := k.Predict(noise); e != api.ErrRange {
			t.Errorf("Predict(%v) returns %d", noise, e)
		}
	}
	for _, m := range []Measurement{
		{Noise: 0}, {Noise: -1}, {Noise: top + 1}, {Noise: math.MinInt64},
		{Noise: 1, H: matrix.Vector{1<<24 + 1}}, {Noise: 1, H: matrix.Vector{0, -1<<24 - 1}}, {Noise: 1, H: matrix.Vector{0, 0, math.MinInt64}},
		{Noise: 1, Z: top + 1}, {Noise: 1, Z: -top - 1}, {Noise: 1, Z: math.MinInt64},
	} {
		if e := k.Update(m); e != api.ErrRange {
			t.Errorf("Update(%v) returns %d", m, e)
		}
	}
	if e := k.Update(Measurement{Noise: 1, Z: 101}); e != api.ErrHigh {
		t.Errorf("beyond the gate: %d", e)
	}
	if a, b := k.Counts(); a != 0 || b != 1 || k.State() != (matrix.Vector{1, 2, 3}) || k.Doubt() != matrix.Diagonal(matrix.Vector{4, 5, 6}) {
		t.Error("an error changed the estimator")
	}
	if e := k.Update(Measurement{Noise: 1, Z: 100}); e != api.OK {
		t.Errorf("at the gate: %d", e)
	}
	if z, ok := k.Expect(Measurement{H: matrix.Vector{math.MaxInt64, math.MinInt64}}); !ok || z != matrix.Dot(matrix.Vector{math.MaxInt64, math.MinInt64}, k.State()) {
		t.Error("Expect of any vector")
	}
	full, _ := New(matrix.Vector{}, matrix.Vector{top, top, top}, 1)
	for range 5 {
		full.Predict(matrix.Vector{top, 0, top})
	}
	if d := full.Doubt(); d[0][0] != 1<<38 || d[1][1] != top || d[2][2] != 1<<38 {
		t.Errorf("the covariance is %v", d)
	}
}

func TestExample(t *testing.T) {
	k, _ := New(matrix.Vector{}, matrix.Vector{matrix.Whole, matrix.Whole, matrix.Whole}, top)
	k.Update(Measurement{H: matrix.Vector{matrix.Whole}, Z: 10 * matrix.Whole, Noise: matrix.Whole})
	if k.State() != (matrix.Vector{5 * matrix.Whole}) {
		t.Errorf("the state is %v", k.State())
	}
}

func TestNil(t *testing.T) {
	var k *Estimator
	z, ok := k.Expect(Measurement{})
	a, b := k.Counts()
	if k.Predict(matrix.Vector{}) != api.ErrArg || k.Update(Measurement{Noise: 1}) != api.ErrArg || z != 0 || ok || a != 0 || b != 0 ||
		k.State() != (matrix.Vector{}) || k.Doubt() != (matrix.Matrix{}) {
		t.Error("a nil estimator")
	}
}
