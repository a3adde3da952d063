// Package option holds a value that may be absent.
package option

// Value is a value of type T, or none. The zero Value is none.
type Value[T any] struct {
	value T
	known bool
}

// Of returns an option with the value v.
func Of[T any](v T) Value[T] {
	return Value[T]{v, true}
}

// Get returns the value and true, or the zero value and false.
func (o Value[T]) Get() (T, bool) {
	return o.value, o.known
}
