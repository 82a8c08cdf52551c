package tests

import (
	"reflect"
	"slices"
	"testing"
)

// A stretch is the memory of one list, up to its capacity.
type stretch struct{ from, to uintptr }

// stretchesOf is the memory of every list in a value, of those in lists too.
func stretchesOf(value any) []stretch { return stretchesIn(reflect.ValueOf(value)) }

func stretchesIn(v reflect.Value) []stretch {
	var all []stretch
	switch v.Kind() {
	case reflect.Slice:
		if v.Cap() > 0 {
			all = append(all, stretch{v.Pointer(), v.Pointer() + uintptr(v.Cap())*v.Type().Elem().Size()})
		}
		for i := range v.Len() {
			all = append(all, stretchesIn(v.Index(i))...)
		}
	case reflect.Struct:
		for i := range v.NumField() {
			all = append(all, stretchesIn(v.Field(i))...)
		}
	}
	return all
}

// wantApart fails when two lists of these values, or of one of them, share memory.
func wantApart(t *testing.T, what string, values ...any) {
	t.Helper()
	var all []stretch
	for _, value := range values {
		all = append(all, stretchesOf(value)...)
	}
	slices.SortFunc(all, func(a, b stretch) int {
		if a.from != b.from {
			return int(a.from) - int(b.from)
		}
		return int(a.to) - int(b.to)
	})
	for i := 1; i < len(all); i++ {
		if all[i].from < all[i-1].to {
			t.Errorf("%s: two lists share memory", what)
			return
		}
	}
}

func TestApartIsSeen(t *testing.T) {
	list := make([]int, 2, 4)
	for _, c := range []struct {
		what   string
		values []any
		shares bool
	}{
		{"two lists", []any{make([]int, 2), make([]int, 2)}, false},
		{"empty lists", []any{[]int(nil), []int{}, []bool{}}, false},
		{"one list twice", []any{list, list}, true},
		{"the spare room of a list", []any{list, list[2:4]}, true},
		{"pieces side by side", []any{list[0:1:1], list[1:2:2]}, false},
		{"lists of one value", []any{[][]int{list, list}}, true},
	} {
		inner := &testing.T{}
		wantApart(inner, c.what, c.values...)
		if inner.Failed() != c.shares {
			t.Errorf("%s: %v", c.what, inner.Failed())
		}
	}
}
