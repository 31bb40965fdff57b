package tests

import (
	"reflect"
	"testing"
)

const paddingLength = 3

// filled returns a value of this type in which every number is 77.
func filled(kind reflect.Type) reflect.Value {
	v := reflect.New(kind).Elem()
	switch kind.Kind() {
	case reflect.Int:
		v.SetInt(77)
	case reflect.Uint8:
		v.SetUint(77)
	case reflect.Bool:
		v.SetBool(true)
	case reflect.Struct:
		for i := range kind.NumField() {
			v.Field(i).Set(filled(kind.Field(i).Type))
		}
	}
	return v
}

// padded returns a copy of v in which every slice, unless it is nil, has memory of its own and a filled spare capacity.
func padded(v reflect.Value) reflect.Value {
	c := reflect.New(v.Type()).Elem()
	c.Set(v)
	switch v.Kind() {
	case reflect.Struct:
		for i := range v.NumField() {
			c.Field(i).Set(padded(v.Field(i)))
		}
	case reflect.Slice:
		if v.IsNil() {
			break
		}
		all := reflect.MakeSlice(v.Type(), v.Len()+paddingLength, v.Len()+paddingLength)
		for i := range all.Len() {
			if i < v.Len() {
				all.Index(i).Set(padded(v.Index(i)))
			} else {
				all.Index(i).Set(filled(v.Type().Elem()))
			}
		}
		c.Set(all.Slice(0, v.Len()))
	}
	return c
}

// isPadded reports whether the spare capacities of v are as padded made them.
func isPadded(v reflect.Value) bool {
	switch v.Kind() {
	case reflect.Struct:
		for i := range v.NumField() {
			if !isPadded(v.Field(i)) {
				return false
			}
		}
	case reflect.Slice:
		for i := range v.Len() {
			if !isPadded(v.Index(i)) {
				return false
			}
		}
		all := v.Slice(0, v.Cap())
		for i := v.Len(); i < v.Cap(); i++ {
			if !reflect.DeepEqual(all.Index(i).Interface(), filled(v.Type().Elem()).Interface()) {
				return false
			}
		}
	}
	return true
}

// plain returns a copy of v in which every empty slice is nil.
func plain(v reflect.Value) reflect.Value {
	c := reflect.New(v.Type()).Elem()
	switch v.Kind() {
	case reflect.Struct:
		for i := range v.NumField() {
			c.Field(i).Set(plain(v.Field(i)))
		}
	case reflect.Slice:
		if v.Len() > 0 {
			c.Set(reflect.MakeSlice(v.Type(), v.Len(), v.Len()))
		}
		for i := range v.Len() {
			c.Index(i).Set(plain(v.Index(i)))
		}
	default:
		c.Set(v)
	}
	return c
}

// areSame reports whether a and b, of one type, are equal, where nil and empty slices are equivalent.
func areSame(a reflect.Value, b reflect.Value) bool {
	switch a.Kind() {
	case reflect.Struct:
		for i := range a.NumField() {
			if !areSame(a.Field(i), b.Field(i)) {
				return false
			}
		}
		return true
	case reflect.Slice:
		for i := range min(a.Len(), b.Len()) {
			if !areSame(a.Index(i), b.Index(i)) {
				return false
			}
		}
		return a.Len() == b.Len()
	}
	return a.Equal(b)
}

// same reports whether a and b are equal, where nil and empty slices are equivalent.
func same[T any](a T, b T) bool {
	return areSame(reflect.ValueOf(&a).Elem(), reflect.ValueOf(&b).Elem())
}

func expectSame[T any](t *testing.T, what string, got T, want T) {
	t.Helper()
	if !same(got, want) {
		t.Errorf("%s = %+v; want %+v", what, got, want)
	}
}

// copyOf returns a copy of x that can be changed.
func copyOf[T any](x T) T {
	return plain(reflect.ValueOf(&x).Elem()).Interface().(T)
}

// memory is the addresses of a slice, up to its capacity.
type memory struct {
	from, to uintptr
}

// memoryOf returns the memory of all slices in v.
func memoryOf(v reflect.Value) []memory {
	l := []memory{}
	switch v.Kind() {
	case reflect.Struct:
		for i := range v.NumField() {
			l = append(l, memoryOf(v.Field(i))...)
		}
	case reflect.Slice:
		if v.Cap() > 0 {
			l = append(l, memory{v.Pointer(), v.Pointer() + uintptr(v.Cap())*v.Type().Elem().Size()})
		}
		for i := range v.Len() {
			l = append(l, memoryOf(v.Index(i))...)
		}
	}
	return l
}

// share reports whether two of these have an address in common.
func share(l []memory) bool {
	for i, a := range l {
		for _, b := range l[:i] {
			if a.from < b.to && b.from < a.to {
				return true
			}
		}
	}
	return false
}

// expectPure calls f twice with these arguments and returns its results. It fails if an argument has changed, if the results differ, or if any of them share memory with each other or with an argument.
func expectPure(t *testing.T, what string, f any, args ...any) []any {
	t.Helper()
	in, before := []reflect.Value{}, []reflect.Value{}
	for _, x := range args {
		in = append(in, padded(reflect.ValueOf(x)))
		before = append(before, plain(reflect.ValueOf(x)))
	}
	first := reflect.ValueOf(f).Call(in)
	results := []any{}
	for _, v := range first {
		results = append(results, plain(v).Interface())
	}
	second := reflect.ValueOf(f).Call(in)
	used := []memory{}
	for i, v := range in {
		if !isPadded(v) || !reflect.DeepEqual(plain(v).Interface(), before[i].Interface()) {
			t.Errorf("%s has changed its argument %d", what, i)
		}
		used = append(used, memoryOf(v)...)
	}
	for i := range first {
		if !reflect.DeepEqual(plain(second[i]).Interface(), results[i]) {
			t.Errorf("%s returns something else when it is called again", what)
		}
		used = append(used, memoryOf(first[i])...)
		used = append(used, memoryOf(second[i])...)
	}
	if share(used) {
		t.Errorf("%s: results share memory with each other or with an argument", what)
	}
	return results
}

// expectUnsharedParts fails if two slices in x share memory with each other.
func expectUnsharedParts(t *testing.T, what string, x any) {
	t.Helper()
	if share(memoryOf(reflect.ValueOf(x))) {
		t.Errorf("%s shares memory with itself", what)
	}
}
