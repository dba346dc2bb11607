package tests

import (
	"reflect"
	"slices"
	"strconv"
	"testing"
	"unsafe"
)

// walk calls see with each slice in a value, the outer ones before those in their elements, with the spare memory behind them.
func walk(v reflect.Value, see func(s reflect.Value)) {
	switch v.Kind() {
	case reflect.Slice:
		see(v)
		whole := v.Slice(0, v.Cap())
		for i := range whole.Len() {
			walk(whole.Index(i), see)
		}
	case reflect.Struct:
		for i := range v.NumField() {
			walk(v.Field(i), see)
		}
	}
}

// deepCopy returns a copy of a value with a copy of every slice in it, and with spare elements behind it.
func deepCopy(v reflect.Value, spare int) reflect.Value {
	out := reflect.New(v.Type()).Elem()
	out.Set(v)
	switch v.Kind() {
	case reflect.Slice:
		if v.IsNil() && spare == 0 {
			break
		}
		out.Set(reflect.MakeSlice(v.Type(), v.Len(), v.Len()+spare))
		for i := range v.Len() {
			out.Index(i).Set(deepCopy(v.Index(i), spare))
		}
	case reflect.Struct:
		for i := range v.NumField() {
			out.Field(i).Set(deepCopy(v.Field(i), spare))
		}
	}
	return out
}

func cloned[T any](v T) T {
	return deepCopy(reflect.ValueOf(v), 0).Interface().(T)
}

// same reports whether two values are the same, where nil and empty slices are.
func same(a reflect.Value, b reflect.Value) bool {
	switch a.Kind() {
	case reflect.Slice:
		if a.Len() != b.Len() {
			return false
		}
		for i := range a.Len() {
			if !same(a.Index(i), b.Index(i)) {
				return false
			}
		}
		return true
	case reflect.Struct:
		for i := range a.NumField() {
			if !same(a.Field(i), b.Field(i)) {
				return false
			}
		}
		return true
	}
	return a.Equal(b)
}

func alike[T any](a T, b T) bool {
	return same(reflect.ValueOf(a), reflect.ValueOf(b))
}

func isZero[T any](v T) bool {
	var zero T
	return alike(v, zero)
}

// A stretch is the memory of a slice, with that behind it.
type stretch struct{ from, to uintptr }

func stretches(values []reflect.Value) []stretch {
	l := []stretch{}
	for _, v := range values {
		walk(v, func(s reflect.Value) {
			if size := uintptr(s.Cap()) * s.Type().Elem().Size(); size > 0 {
				l = append(l, stretch{uintptr(s.UnsafePointer()), uintptr(s.UnsafePointer()) + size})
			}
		})
	}
	return l
}

// wholeOf returns all bytes of the slices in the values, with the spare memory.
func wholeOf(values []reflect.Value) []byte {
	b := []byte{}
	for _, v := range values {
		walk(v, func(s reflect.Value) {
			size := s.Cap() * int(s.Type().Elem().Size())
			b = append(b, unsafe.Slice((*byte)(s.UnsafePointer()), size)...)
		})
	}
	return b
}

// keeps calls a function with arguments that have spare memory behind each of their slices. It checks that nothing of
// these arguments is changed, that the results share no memory with them nor with each other, and that they are
// the same as for arguments without spare memory.
func keeps(t *testing.T, name string, function any, arguments ...any) {
	t.Helper()
	exact, given := []reflect.Value{}, []reflect.Value{}
	for i, a := range arguments {
		v := reflect.ValueOf(a)
		if !v.IsValid() {
			v = reflect.Zero(reflect.TypeOf(function).In(i))
		}
		exact, given = append(exact, deepCopy(v, 0)), append(given, deepCopy(v, 3))
	}
	before := wholeOf(given)
	want, got := reflect.ValueOf(function).Call(exact), reflect.ValueOf(function).Call(given)
	if !slices.Equal(wholeOf(given), before) {
		t.Errorf("%s changes its arguments or what lies behind them: %+v", name, arguments)
	}
	for i := range want {
		if !same(want[i], got[i]) {
			t.Errorf("%s returns %+v, and %+v where its arguments have spare memory: %+v", name, want[i], got[i], arguments)
		}
	}
	l := append(stretches(given), stretches(got)...)
	slices.SortFunc(l, func(a stretch, b stretch) int { return int(a.from) - int(b.from) })
	for i := 1; i < len(l); i++ {
		if l[i].from < l[i-1].to {
			t.Errorf("%s returns memory that it does not own alone: %+v", name, arguments)
			break
		}
	}
}

// A variant is a value that differs in one place from another one.
type variant[T any] struct {
	where string
	value T
}

// variants returns copies of a value, each with one number, boolean or list changed: numbers by 1, and lists by an
// element that is added or missing.
func variants[T any](v T) []variant[T] {
	out := []variant[T]{}
	var change func(at reflect.Value, where string, path func(root reflect.Value) reflect.Value)
	add := func(where string, path func(root reflect.Value) reflect.Value, do func(at reflect.Value)) {
		c := reflect.New(reflect.TypeOf(v)).Elem()
		c.Set(deepCopy(reflect.ValueOf(v), 0))
		do(path(c))
		out = append(out, variant[T]{where, c.Interface().(T)})
	}
	change = func(at reflect.Value, where string, path func(root reflect.Value) reflect.Value) {
		switch at.Kind() {
		case reflect.Int:
			for _, by := range []int64{-1, 1} {
				add(where+strconv.Itoa(int(by)), path, func(x reflect.Value) { x.SetInt(x.Int() + by) })
			}
		case reflect.Bool:
			add(where, path, func(x reflect.Value) { x.SetBool(!x.Bool()) })
		case reflect.Struct:
			for i := range at.NumField() {
				change(at.Field(i), where+"."+at.Type().Field(i).Name, func(r reflect.Value) reflect.Value { return path(r).Field(i) })
			}
		case reflect.Slice:
			add(where+" longer", path, func(x reflect.Value) { x.Set(reflect.Append(x, reflect.Zero(x.Type().Elem()))) })
			for i := range at.Len() {
				add(where+" shorter", path, func(x reflect.Value) {
					x.Set(reflect.AppendSlice(x.Slice3(0, i, i), x.Slice(i+1, x.Len())))
				})
				change(at.Index(i), where+"["+strconv.Itoa(i)+"]", func(r reflect.Value) reflect.Value { return path(r).Index(i) })
			}
		}
	}
	change(reflect.ValueOf(v), "", func(r reflect.Value) reflect.Value { return r })
	return out
}

// checkEqualStructs compares a value with itself and with all its variants.
func checkEqualStructs[T any](t *testing.T, name string, equal func(a T, b T) bool, v T) {
	t.Helper()
	if !equal(v, v) || !equal(v, cloned(v)) {
		t.Errorf("%s: %+v is not equal to itself", name, v)
	}
	for _, x := range variants(v) {
		// A list of equal elements may lose any one of them, so the variants are compared with each other no further.
		if equal(v, x.value) || equal(x.value, v) {
			t.Errorf("%s%s: %+v is equal to %+v", name, x.where, v, x.value)
		}
		if !equal(x.value, cloned(x.value)) {
			t.Errorf("%s: %+v is not equal to itself", name, x.value)
		}
	}
	nothing := reflect.New(reflect.TypeOf(v)).Elem()
	for i := range nothing.NumField() {
		if f := nothing.Field(i); f.Kind() == reflect.Slice {
			f.Set(reflect.MakeSlice(f.Type(), 0, 4))
		}
	}
	var zero T
	if empty := nothing.Interface().(T); !equal(zero, empty) || !equal(empty, zero) {
		t.Errorf("%s: nil and empty are not equal", name)
	}
}

// TestVariants checks the helper, because a place that it passes over is not tested anywhere.
func TestVariants(t *testing.T) {
	type inner struct{ N int }
	type outer struct {
		A int
		B bool
		L []inner
	}
	v := outer{A: 1, L: []inner{{5}, {6}}}
	got := variants(v)
	if len(got) != 2+1+1+2+2*2 || !alike(v, outer{A: 1, L: []inner{{5}, {6}}}) {
		t.Fatalf("%+v", got)
	}
	for i, x := range got {
		if alike(x.value, v) {
			t.Errorf("%+v", x)
		}
		for _, y := range got[:i] {
			if alike(x.value, y.value) {
				t.Errorf("%+v and %+v", x, y)
			}
		}
	}
	if alike(got[0].value, got[1].value) || !alike(v, cloned(v)) || !isZero(outer{L: []inner{}}) || isZero(v) {
		t.Error("alike")
	}
}
