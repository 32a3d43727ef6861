package tests

import (
	"reflect"
	"testing"
)

// span is a piece of memory, from its first byte to the one behind its last.
type span struct{ from, end uintptr }

// spansOf gives the memory of all lists in a value, the room behind their elements counted in.
func spansOf(v reflect.Value) []span {
	var all []span
	switch v.Kind() {
	case reflect.Slice:
		if size := uintptr(v.Cap()) * v.Type().Elem().Size(); size > 0 {
			all = append(all, span{v.Pointer(), v.Pointer() + size})
		}
		for i := range v.Len() {
			all = append(all, spansOf(v.Index(i))...)
		}
	case reflect.Struct:
		for i := range v.NumField() {
			all = append(all, spansOf(v.Field(i))...)
		}
	}
	return all
}

// wantNewMemory wants that the lists of an answer share nothing with each other or with the arguments.
func wantNewMemory(t *testing.T, answer any, args ...any) {
	t.Helper()
	mine := spansOf(reflect.ValueOf(answer))
	others := append([]span{}, mine...)
	for _, a := range args {
		others = append(others, spansOf(reflect.ValueOf(a))...)
	}
	for i, a := range mine {
		for k, b := range others {
			if i != k && a.from < b.end && b.from < a.end {
				t.Fatalf("a list of the answer shares memory: %T", answer)
			}
		}
	}
}

// isNothing says whether a value has every field false, zero or empty.
func isNothing(v any) bool {
	return nothing(reflect.ValueOf(v))
}

func nothing(v reflect.Value) bool {
	switch v.Kind() {
	case reflect.Slice:
		return v.Len() == 0
	case reflect.Struct:
		for i := range v.NumField() {
			if !nothing(v.Field(i)) {
				return false
			}
		}
		return true
	}
	return v.IsZero()
}
