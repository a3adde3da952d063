package option

import "testing"

func TestValue(t *testing.T) {
	var none Value[int64]
	if v, ok := none.Get(); v != 0 || ok {
		t.Error("the zero Value has a value")
	}
	if v, ok := Of(int64(7)).Get(); v != 7 || !ok {
		t.Error("Of(7) has another value")
	}
	if v, ok := Of(0).Get(); v != 0 || !ok {
		t.Error("Of(0) has no value")
	}
}
