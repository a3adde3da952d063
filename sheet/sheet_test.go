package sheet

import (
	"math"
	"math/rand"
	"reflect"
	"testing"

	"aneroid/api"
	"aneroid/curve"
)

const limit = 1<<39 - 1

func grid(nx, ny int) api.Sheet {
	var s api.Sheet
	random := rand.New(rand.NewSource(int64(nx*100 + ny)))
	for i := range nx {
		s.X = append(s.X, int64(i*i*10-7))
		var row []int64
		for range ny {
			row = append(row, random.Int63n(2*limit+1)-limit)
		}
		s.Z = append(s.Z, row)
	}
	for j := range ny {
		s.Y = append(s.Y, int64(j*1000-3000))
	}
	return s
}

func example() api.Sheet {
	return api.Sheet{X: []int64{0, 10}, Y: []int64{0, 10}, Z: [][]int64{{0, 10}, {20, 30}}}
}

func invalid() []api.Sheet {
	change := func(f func(*api.Sheet)) api.Sheet {
		s := grid(3, 4)
		f(&s)
		return s
	}
	return []api.Sheet{
		{},
		grid(1, 2), grid(2, 1), grid(17, 2), grid(2, 17), grid(0, 3),
		change(func(s *api.Sheet) { s.X[1] = s.X[0] }),
		change(func(s *api.Sheet) { s.Y[3] = s.Y[0] }),
		change(func(s *api.Sheet) { s.X[2] = limit + 1 }),
		change(func(s *api.Sheet) { s.Y[0] = -limit - 1 }),
		change(func(s *api.Sheet) { s.Z[2][3] = limit + 1 }),
		change(func(s *api.Sheet) { s.Z[0][0] = -limit - 1 }),
		change(func(s *api.Sheet) { s.Z = s.Z[:2] }),
		change(func(s *api.Sheet) { s.Z = append(s.Z, s.Z[0]) }),
		change(func(s *api.Sheet) { s.Z[1] = s.Z[1][:3] }),
		change(func(s *api.Sheet) { s.Z[1] = append(s.Z[1], 0) }),
		change(func(s *api.Sheet) { s.Z[1] = nil }),
	}
}

// Promises 6.1, 6.2 and 6.3.
func TestValues(t *testing.T) {
	random := rand.New(rand.NewSource(6))
	for _, s := range []api.Sheet{example(), grid(2, 2), grid(16, 16), grid(3, 16), grid(16, 2), grid(5, 7)} {
		if !Right(s) {
			t.Fatalf("%v is valid", s)
		}
		least, most := s.Z[0][0], s.Z[0][0]
		for _, row := range s.Z {
			for _, z := range row {
				least, most = min(least, z), max(most, z)
			}
		}
		for range 300 {
			x, y := random.Int63n(3000)-100, random.Int63n(20000)-4000
			if random.Intn(50) == 0 {
				x, y = math.MinInt64, math.MaxInt64
			}
			cut := api.Curve{X: s.X}
			for _, row := range s.Z {
				v, _ := curve.At(api.Curve{X: s.Y, Y: row}, y)
				cut.Y = append(cut.Y, v)
			}
			want, _ := curve.At(cut, x)
			if v, ok := At(s, x, y); v != want || !ok || v < least || v > most {
				t.Errorf("At(%d, %d) = %d, %v, want %d", x, y, v, ok, want)
			}
			if c, ok := Cut(s, y); !ok || !reflect.DeepEqual(c, cut) {
				t.Errorf("Cut(%d) = %v, want %v", y, c, cut)
			}
		}
		for i, x := range s.X {
			for j, y := range s.Y {
				if v, ok := At(s, x, y); v != s.Z[i][j] || !ok {
					t.Errorf("at grid point %d, %d the value is %d", i, j, v)
				}
			}
			if c, ok := Row(s, i); !ok || !reflect.DeepEqual(c, api.Curve{X: s.Y, Y: s.Z[i]}) {
				t.Errorf("Row(%d) = %v", i, c)
			}
		}
		f, ok := Flip(s)
		if !ok || !reflect.DeepEqual(f.X, s.Y) || !reflect.DeepEqual(f.Y, s.X) || len(f.Z) != len(s.Y) {
			t.Errorf("Flip gives %v", f)
		}
		for i := range s.X {
			for j := range s.Y {
				if f.Z[j][i] != s.Z[i][j] {
					t.Errorf("Flip at %d, %d", i, j)
				}
			}
		}
		if twice, ok := Flip(f); !ok || !reflect.DeepEqual(twice, s) {
			t.Error("flipping twice gives another sheet")
		}
	}
	if v, ok := At(example(), 5, 5); v != 15 || !ok {
		t.Errorf("the example gives %d", v)
	}
}

// Promises 6.1 and 6.2 for invalid arguments.
func TestInvalid(t *testing.T) {
	for i, s := range invalid() {
		if Right(s) {
			t.Errorf("sheet %d is not valid", i)
		}
		if v, ok := At(s, 1, 1); v != 0 || ok {
			t.Errorf("At of invalid sheet %d", i)
		}
		if c, ok := Row(s, 0); c.X != nil || c.Y != nil || ok {
			t.Errorf("Row of invalid sheet %d", i)
		}
		if c, ok := Cut(s, 0); c.X != nil || c.Y != nil || ok {
			t.Errorf("Cut of invalid sheet %d", i)
		}
		if f, ok := Flip(s); f.X != nil || f.Y != nil || f.Z != nil || ok {
			t.Errorf("Flip of invalid sheet %d", i)
		}
	}
	for _, i := range []int{-1, 2, math.MinInt, math.MaxInt} {
		if c, ok := Row(example(), i); c.X != nil || c.Y != nil || ok {
			t.Errorf("Row(%d)", i)
		}
	}
}

// Results are new memory.
func TestMemory(t *testing.T) {
	s := example()
	r, _ := Row(s, 0)
	c, _ := Cut(s, 0)
	f, _ := Flip(s)
	for _, l := range [][]int64{r.X, r.Y, c.X, c.Y, f.X, f.Y, f.Z[0], f.Z[1]} {
		l[0] = 77
	}
	if !reflect.DeepEqual(s, example()) {
		t.Error("a result shares memory with the argument")
	}
}
