package tests

import (
	"reflect"
	"slices"
	"testing"
)

// A stretch is the memory of one list, up to its capacity.
type stretch struct{ from, to uintptr }

// stretchesOf is the memory of every list in a value, of those in lists too.
func stretchesOf(value any) []stretch { return stretchesIn(reflect.ValueOf(value)) }

func stretchesIn(v reflect.Value) []stretch {
	var all []stretch
	switch v.Kind() {
	case reflect.Slice:
		if v.Cap() > 0 {
			all = append(all, stretch{v.Pointer(), v.Pointer() + uintptr(v.Cap())*v.Type().Elem().Size()})
		}
		for i := range v.Len() {
			all = append(all, stretchesIn(v.Index(i))...)
		}
	case reflect.Struct:
		for i := range v.NumField() {
			all = append(all, stretchesIn(v.Field(i))...)
		}
	}
	return all
}

// wantApart fails when two lists of these values, or of one of them, share memory.
func wantApart(t *testing.T, what string, values ...any) {
	t.Helper()
	var all []stretch
	for _, value := range values {
		all = append(all, stretchesOf(value)...)
	}
	slices.SortFunc(all, func(a, b stretch) int {
		if a.from != b.from {
			return int(a.from) - int(b.from)
		}
		return int(a.to) - int(b.to)
	})
	for i := 1; i < len(all); i++ {
		if all[i].from < all[i-1].to {
			t.Errorf("%s: two lists share memory", what)
			return
		}
	}
}

func TestApartIsSeen(t *testing.T) {
	list := make([]int, 2, 4)
	for _, c := range []struct {
		what   string
		values []any
		shares bool
	}{
		{"two lists", []any{make([]int, 2), make([]int, 2)}, false},
		{"empty lists", []any{[]int(nil), []int{}, []bool{}}, false},
		{"one list twice", []any{list, list}, true},
		{"the spare room of a list", []any{list, list[2:4]}, true},
		{"pieces side by side", []any{list[0:1:1], list[1:2:2]}, false},
		{"lists of one value", []any{[][]int{list, list}}, true},
	} {
		inner := &testing.T{}
		wantApart(inner, c.what, c.values...)
		if inner.Failed() != c.shares {
			t.Errorf("%s: %v", c.what, inner.Failed())
		}
	}
}

// made is a copy of a value, deep down; each list of it has so much room behind its end, and marks there.
func made(v reflect.Value, room int) reflect.Value {
	switch v.Kind() {
	case reflect.Slice:
		if v.Len()+room == 0 {
			return reflect.Zero(v.Type())
		}
		list := reflect.MakeSlice(v.Type(), v.Len()+room, v.Len()+room)
		for i := range list.Len() {
			if i < v.Len() {
				list.Index(i).Set(made(v.Index(i), room))
			} else {
				mark(list.Index(i))
			}
		}
		return list.Slice(0, v.Len())
	case reflect.Struct:
		whole := reflect.New(v.Type()).Elem()
		for i := range v.NumField() {
			whole.Field(i).Set(made(v.Field(i), room))
		}
		return whole
	}
	return v
}

// mark writes into a value what stands nowhere else.
func mark(v reflect.Value) {
	switch v.Kind() {
	case reflect.Int:
		v.SetInt(7777)
	case reflect.Bool:
		v.SetBool(!v.Bool())
	case reflect.Struct:
		for i := range v.NumField() {
			mark(v.Field(i))
		}
	}
}

// roomy is a copy in which a write behind the end of a list is seen too.
func roomy[T any](value T) T { return made(reflect.ValueOf(value), 2).Interface().(T) }

// tight is a copy without room behind the end of any list; those that are empty are nil, which is the same value.
func tight[T any](value T) T { return made(reflect.ValueOf(value), 0).Interface().(T) }

// same says whether two values are the same, deep down; an empty list and nil are.
func same(a, b any) bool { return sameIn(reflect.ValueOf(a), reflect.ValueOf(b), false) }

// sameWhole says whether two values are the same, deep down, with all that stands behind the ends of their lists.
func sameWhole(a, b any) bool { return sameIn(reflect.ValueOf(a), reflect.ValueOf(b), true) }

func sameIn(a, b reflect.Value, whole bool) bool {
	switch a.Kind() {
	case reflect.Slice:
		if a.Len() != b.Len() || whole && a.Cap() != b.Cap() {
			return false
		}
		if whole {
			a, b = a.Slice(0, a.Cap()), b.Slice(0, b.Cap())
		}
		for i := range a.Len() {
			if !sameIn(a.Index(i), b.Index(i), whole) {
				return false
			}
		}
		return true
	case reflect.Struct:
		for i := range a.NumField() {
			if !sameIn(a.Field(i), b.Field(i), whole) {
				return false
			}
		}
		return true
	}
	return a.Equal(b)
}

// scribble writes over all that stands in the lists of a value.
func scribble(v reflect.Value) {
	switch v.Kind() {
	case reflect.Slice:
		list := v.Slice(0, v.Cap())
		for i := range list.Len() {
			scribble(list.Index(i))
			mark(list.Index(i))
		}
	case reflect.Struct:
		for i := range v.NumField() {
			scribble(v.Field(i))
		}
	}
}

func TestCopiesAreSeen(t *testing.T) {
	type both struct {
		Rows [][]int
		Flag bool
	}
	value := both{Rows: [][]int{{1}, nil, {}}, Flag: true}
	loose, close := roomy(value), tight(value)
	wantApart(t, "copies", value, loose, close)
	if !same(value, loose) || !same(value, close) || sameWhole(loose, close) || !sameWhole(loose, roomy(value)) {
		t.Error("copies are the same, but for their room")
	}
	if close.Rows[2] != nil || cap(loose.Rows) != 5 || cap(loose.Rows[0]) != 3 || loose.Rows[0][:2][1] != 7777 {
		t.Error(loose, close)
	}
	if loose.Rows[0][:3][2] = 5; !same(value, loose) || sameWhole(loose, roomy(value)) {
		t.Error("a write behind the end of a list is not seen")
	}
	scribble(reflect.ValueOf(loose))
	if loose.Rows[0][0] != 7777 || same(value, loose) {
		t.Error("not written over")
	}
	if loose = roomy(value); same(value, both{Rows: loose.Rows}) || sameWhole(loose, both{Rows: loose.Rows}) {
		t.Error("a flag is not seen")
	}
}
