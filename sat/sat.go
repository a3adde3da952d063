// Package sat adds and subtracts with saturation, and records whether
// saturation occurred.
package sat

import (
	"sync/atomic"

	"aneroid/api"
)

// Unit computes within the bounds and remembers whether anything was outside
// of them. The zero Unit is ready to use.
type Unit struct {
	over atomic.Bool
}

// Clip returns n clipped to the bounds, and whether it was outside of them.
func Clip(n int64) (int64, bool) {
	clipped := min(max(n, -api.Max), api.Max)
	return clipped, clipped != n
}

// Put returns n clipped.
func (u *Unit) Put(n int64) int64 {
	clipped, outside := Clip(n)
	if outside && u != nil {
		u.over.Store(true)
	}
	return clipped
}

// Add returns the clipped sum of the clipped a and b.
func (u *Unit) Add(a, b int64) int64 {
	return u.Put(u.Put(a) + u.Put(b))
}

// Sub returns the clipped difference of the clipped a and b.
func (u *Unit) Sub(a, b int64) int64 {
	return u.Put(u.Put(a) - u.Put(b))
}

// Neg returns the negation of the clipped a.
func (u *Unit) Neg(a int64) int64 {
	return -u.Put(a)
}

// Abs returns the absolute value of the clipped a.
func (u *Unit) Abs(a int64) int64 {
	clipped := u.Put(a)
	return max(clipped, -clipped)
}

// Sum adds the numbers one after the other, beginning with 0.
func (u *Unit) Sum(l ...int64) int64 {
	var sum int64
	for _, n := range l {
		sum = u.Add(sum, n)
	}
	return sum
}

// Over reports whether anything was outside of the bounds since the Unit was
// created or last cleared.
func (u *Unit) Over() bool {
	return u != nil && u.over.Load()
}

// Clear resets what Over reports.
func (u *Unit) Clear() {
	if u != nil {
		u.over.Store(false)
	}
}
