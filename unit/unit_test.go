package unit

import (
	"math"
	"math/big"
	"math/rand"
	"strings"
	"testing"

	"aneroid/api"
)

var all = []struct {
	name string
	kind int
	n, d int64
}{
	{"cm", 0, 1, 1}, {"m", 0, 100, 1}, {"ft", 0, 3048, 100}, {"fl", 0, 3048, 1}, {"nmi", 0, 185200, 1},
	{"pa64", 1, 1, 1}, {"pa", 1, 64, 1}, {"hpa", 1, 6400, 1}, {"inhg", 1, 216728, 1},
	{"cms", 2, 1, 1}, {"kt", 2, 185200, 3600}, {"kmh", 2, 100000, 3600}, {"fpm", 2, 3048, 6000},
	{"mk", 3, 1, 1}, {"k", 3, 1000, 1},
}

var noUnits = []int{-1, 15, 100, math.MinInt, math.MaxInt}

func numbers() []int64 {
	l := []int64{math.MinInt64, -api.Max - 1, -api.Max, -1500, -1000, -501, -500, -499, -1, 0, 1, 499, 500, 501, 1000, 1500, api.Max - 1, api.Max, api.Max + 1, math.MaxInt64}
	r := rand.New(rand.NewSource(37))
	for range 100 {
		l = append(l, int64(r.Uint64())>>(23+r.Intn(40)))
	}
	return l
}

// near is promise 2.1 with big integers, for a positive divisor.
func near(a, b, c int64) (int64, bool) {
	n := new(big.Int).Mul(big.NewInt(a), big.NewInt(2*b))
	n.Add(n, big.NewInt(c)).Div(n, big.NewInt(2*c))
	if n.CmpAbs(big.NewInt(api.Max)) > 0 {
		return 0, false
	}
	return n.Int64(), true
}

// Promise 37.1.
func TestTable(t *testing.T) {
	for i, x := range all {
		n, ok1 := Find(x.name)
		k, ok2 := Kind(i)
		if Name(i) != x.name || n != i || !ok1 || k != x.kind || !ok2 {
			t.Errorf("unit %d: %s, %d, %d", i, Name(i), n, k)
		}
	}
	for _, u := range noUnits {
		k, ok := Kind(u)
		p, ok2 := Parts(Quantity{5, u})
		if Name(u) != "" || k != 0 || ok || p != 0 || ok2 {
			t.Errorf("unit %d", u)
		}
	}
	for _, name := range []string{"", "CM", "cm ", " cm", "ftt", "km"} {
		if n, ok := Find(name); n != 0 || ok {
			t.Errorf("Find(%q) = %d, %v", name, n, ok)
		}
	}
}

// Promises 37.1 and 37.4.
func TestConversions(t *testing.T) {
	for i, x := range all {
		previous, started := int64(0), false
		for _, n := range numbers() {
			clipped := min(max(n, -api.Max), api.Max)
			want, wantOK := near(clipped, x.n, 1000*x.d)
			if p, ok := Parts(Quantity{n, i}); p != want || ok != wantOK {
				t.Errorf("Parts(%d %s) = %d, %v, want %d, %v", n, x.name, p, ok, want, wantOK)
			}
			for j, y := range all {
				q, ok := To(Quantity{n, i}, j)
				if x.kind != y.kind {
					if q != (Quantity{}) || ok {
						t.Errorf("To(%d %s, %s) = %v", n, x.name, y.name, q)
					}
					continue
				}
				want, wantOK := near(clipped, x.n*y.d, x.d*y.n)
				if ok != wantOK || ok && q != (Quantity{want, j}) || !ok && q != (Quantity{}) {
					t.Errorf("To(%d %s, %s) = %v, %v, want %d, %v", n, x.name, y.name, q, ok, want, wantOK)
				}
				if i == j && (q.N != clipped || !ok) {
					t.Errorf("To the same unit changes %d %s", n, x.name)
				}
			}
			for _, u := range noUnits {
				if q, ok := To(Quantity{n, i}, u); q != (Quantity{}) || ok {
					t.Errorf("To unit %d", u)
				}
				if q, ok := To(Quantity{n, u}, i); q != (Quantity{}) || ok {
					t.Errorf("To from unit %d", u)
				}
			}
		}
		for n := int64(-3000); n < 3000; n += 7 {
			p, _ := Parts(Quantity{n, i})
			if started && p < previous {
				t.Errorf("Parts of %s is not monotone at %d", x.name, n)
			}
			previous, started = p, true
		}
	}
}

// Promises 37.2 and 37.4.
func TestText(t *testing.T) {
	for _, x := range []struct {
		q    Quantity
		want string
	}{
		{Quantity{1500, 7}, "1.5 hpa"}, {Quantity{0, 0}, "0 cm"}, {Quantity{-500, 1}, "-0.5 m"}, {Quantity{1, 2}, "0.001 ft"},
		{Quantity{-1000, 3}, "-1 fl"}, {Quantity{10, 4}, "0.01 nmi"}, {Quantity{1020, 5}, "1.02 pa64"}, {Quantity{123456, 14}, "123.456 k"},
		{Quantity{1000000, 10}, "1000 kt"}, {Quantity{api.Max, 0}, "1099511627.775 cm"}, {Quantity{-api.Max, 0}, "-1099511627.775 cm"},
	} {
		if s, ok := Text(x.q); s != x.want || !ok {
			t.Errorf("Text(%v) = %q, %v, want %q", x.q, s, ok, x.want)
		}
	}
	for i := range all {
		for _, n := range numbers() {
			s, ok := Text(Quantity{n, i})
			if ok != (n >= -api.Max && n <= api.Max) || !ok && s != "" {
				t.Errorf("Text(%d, %d) = %q, %v", n, i, s, ok)
			}
			if q, e := Parse(s); ok && (q != Quantity{n, i} || e != api.OK) {
				t.Errorf("Parse(%q) = %v, %d", s, q, e)
			}
		}
	}
	for _, u := range noUnits {
		if s, ok := Text(Quantity{5, u}); s != "" || ok {
			t.Errorf("Text with unit %d", u)
		}
	}
}

// Promise 37.2: the errors and their order.
func TestParse(t *testing.T) {
	for _, x := range []struct {
		s string
		e api.Errno
	}{
		{"", api.ErrForm}, {"5", api.ErrForm}, {"5 ", api.ErrForm}, {" ", api.ErrForm}, {" cm", api.ErrForm}, {"x cm", api.ErrForm},
		{"5cm", api.ErrForm}, {"+5 cm", api.ErrForm}, {"05 cm", api.ErrForm}, {"00 cm", api.ErrForm}, {"-0 cm", api.ErrForm},
		{"- cm", api.ErrForm}, {"--5 cm", api.ErrForm}, {"5. cm", api.ErrForm}, {".5 cm", api.ErrForm}, {"-.5 cm", api.ErrForm},
		{"5.0 cm", api.ErrForm}, {"5.10 cm", api.ErrForm}, {"5.1234 cm", api.ErrForm}, {"5.1.2 cm", api.ErrForm}, {"5.-1 cm", api.ErrForm},
		{"-0.0 cm", api.ErrForm}, {"5,5 cm", api.ErrForm}, {"0x5 cm", api.ErrForm}, {"5e3 cm", api.ErrForm}, {"\u0665 cm", api.ErrForm},
		{"01 xyz", api.ErrForm}, {"5\tcm", api.ErrForm}, {"1_0 cm", api.ErrForm}, {"5.0004 xyz", api.ErrForm},
		{"5 xyz", api.ErrNone}, {"5  cm", api.ErrNone}, {"5 cm ", api.ErrNone}, {"5 CM", api.ErrNone}, {"5 cm\n", api.ErrNone},
		{"99999999999999999999999999 xyz", api.ErrNone},
		{"1099511627.776 cm", api.ErrRange}, {"-1099511627.776 cm", api.ErrRange}, {"1099511628 k", api.ErrRange},
		{"99999999999999999999999999 cm", api.ErrRange}, {"-18446744073709551616.5 cm", api.ErrRange}, {"9223372036854775807 cm", api.ErrRange},
		{strings.Repeat("9", 5000) + " cm", api.ErrRange},
		{"1099511627.775 cm", api.OK}, {"-0.001 k", api.OK}, {"0 k", api.OK},
	} {
		q, e := Parse(x.s)
		if e != x.e || e != api.OK && q != (Quantity{}) {
			t.Errorf("Parse(%q) = %v, %d, want %d", x.s, q, e, x.e)
		}
	}
}

// Promise 37.3.
func TestCompare(t *testing.T) {
	for _, x := range []struct {
		a, b Quantity
		want int
		ok   bool
	}{
		{Quantity{1000, 1}, Quantity{100000, 0}, 0, true},
		{Quantity{999, 1}, Quantity{100000, 0}, 0, true}, // 99.9 rounds to 100
		{Quantity{990, 1}, Quantity{100000, 0}, -1, true},
		{Quantity{1000, 4}, Quantity{1000, 1}, 1, true},
		{Quantity{-5000, 13}, Quantity{-5, 14}, 0, true},
		{Quantity{-6000, 13}, Quantity{-5, 14}, -1, true},
		{Quantity{1000, 0}, Quantity{1000, 5}, 0, false},
		{Quantity{1000, 0}, Quantity{1000, 15}, 0, false},
		{Quantity{1000, -1}, Quantity{1000, 0}, 0, false},
		{Quantity{api.Max, 4}, Quantity{1000, 0}, 0, false},
		{Quantity{1000, 0}, Quantity{-api.Max, 4}, 0, false},
	} {
		if c, ok := Compare(x.a, x.b); c != x.want || ok != x.ok {
			t.Errorf("Compare(%v, %v) = %d, %v", x.a, x.b, c, ok)
		}
		if c, ok := Compare(x.b, x.a); c != -x.want || ok != x.ok {
			t.Errorf("Compare(%v, %v) = %d, %v", x.b, x.a, c, ok)
		}
	}
}
