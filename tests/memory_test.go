package tests

import (
	"bytes"
	"reflect"
	"testing"
)

// sameValue says whether two values are the same, an empty list being the same as none.
func sameValue(a any, b any) bool {
	return sameParts(reflect.ValueOf(a), reflect.ValueOf(b))
}

func sameParts(a reflect.Value, b reflect.Value) bool {
	if a.IsValid() != b.IsValid() {
		return false
	}
	if !a.IsValid() {
		return true
	}
	if a.Type() != b.Type() {
		return false
	}
	switch a.Kind() {
	case reflect.Struct:
		for i := range a.NumField() {
			if !sameParts(a.Field(i), b.Field(i)) {
				return false
			}
		}
		return true
	case reflect.Slice:
		if a.Len() != b.Len() {
			return false
		}
		if a.Type().Elem().Kind() == reflect.Uint8 {
			return bytes.Equal(a.Bytes(), b.Bytes())
		}
		for i := range a.Len() {
			if !sameParts(a.Index(i), b.Index(i)) {
				return false
			}
		}
		return true
	}
	return a.Equal(b)
}

// spare is how much room is behind each list of a value with room.
const spare = 3

// roomy is the same value in memory of its own, with room behind each list that is full of something else.
func roomy[T any](v T) T {
	return withRoom(reflect.ValueOf(v)).Interface().(T)
}

func withRoom(v reflect.Value) reflect.Value {
	out := reflect.New(v.Type()).Elem()
	switch v.Kind() {
	case reflect.Struct:
		for i := range v.NumField() {
			out.Field(i).Set(withRoom(v.Field(i)))
		}
	case reflect.Slice:
		all := reflect.MakeSlice(v.Type(), v.Len()+spare, v.Len()+spare)
		for i := range all.Len() {
			if i < v.Len() {
				all.Index(i).Set(withRoom(v.Index(i)))
			} else {
				junk(all.Index(i))
			}
		}
		out.Set(all.Slice(0, v.Len()))
	default:
		out.Set(v)
	}
	return out
}

func junk(v reflect.Value) {
	switch v.Kind() {
	case reflect.Struct:
		for i := range v.NumField() {
			junk(v.Field(i))
		}
	case reflect.Int:
		v.SetInt(77)
	case reflect.Uint8:
		v.SetUint(77)
	case reflect.Bool:
		v.SetBool(true)
	}
}

// stretched is a value with each list as long as its room, in memory of its own.
func stretched(v reflect.Value) reflect.Value {
	out := reflect.New(v.Type()).Elem()
	switch v.Kind() {
	case reflect.Struct:
		for i := range v.NumField() {
			out.Field(i).Set(stretched(v.Field(i)))
		}
	case reflect.Slice:
		all := v.Slice(0, v.Cap())
		out.Set(reflect.MakeSlice(v.Type(), all.Len(), all.Len()))
		for i := range all.Len() {
			out.Index(i).Set(stretched(all.Index(i)))
		}
	default:
		out.Set(v)
	}
	return out
}

// span is where a list lies, its room included.
type span struct{ from, to uintptr }

func spansOf(v reflect.Value) []span {
	var out []span
	switch v.Kind() {
	case reflect.Struct:
		for i := range v.NumField() {
			out = append(out, spansOf(v.Field(i))...)
		}
	case reflect.Slice:
		if size := uintptr(v.Cap()) * v.Type().Elem().Size(); size > 0 {
			out = append(out, span{v.Pointer(), v.Pointer() + size})
		}
		for i := range v.Len() {
			out = append(out, spansOf(v.Index(i))...)
		}
	}
	return out
}

// checkMemory holds a call against what is said of memory: its arguments, with room behind their lists, stay as they are, and no list of an answer lies in one of theirs, or in another one.
func checkMemory(t *testing.T, name string, call func() []any, args ...any) {
	t.Helper()
	var kept []any
	for _, arg := range args {
		kept = append(kept, stretched(reflect.ValueOf(arg)).Interface())
	}
	answers := call()
	var taken []span
	for i, arg := range args {
		if !sameValue(stretched(reflect.ValueOf(arg)).Interface(), kept[i]) {
			t.Fatalf("%s: it writes into %v", name, kept[i])
		}
		taken = append(taken, spansOf(reflect.ValueOf(arg))...)
	}
	for _, answer := range answers {
		for _, s := range spansOf(reflect.ValueOf(answer)) {
			for _, other := range taken {
				if s.from < other.to && other.from < s.to {
					t.Fatalf("%s: a list of %v lies in another one", name, answer)
				}
			}
			taken = append(taken, s)
		}
	}
}

func TestMemoryIsSeen(t *testing.T) {
	type inner struct{ Body []byte }
	type outer struct {
		Parts []inner
		Ns    []int
	}
	v := roomy(outer{Parts: []inner{{Body: []byte{1, 2}}, {}}, Ns: []int{4}})
	if cap(v.Parts) != 2+spare || cap(v.Parts[0].Body) != 2+spare || !sameValue(v, outer{Parts: []inner{{Body: []byte{1, 2}}, {Body: []byte{}}}, Ns: []int{4}}) {
		t.Fatalf("%v", v)
	}
	before := stretched(reflect.ValueOf(v)).Interface()
	_ = append(v.Parts[0].Body, 9)
	if sameValue(stretched(reflect.ValueOf(v)).Interface(), before) {
		t.Error("what is written behind a list does not show")
	}
	if spans := spansOf(reflect.ValueOf(v)); len(spans) != 4 {
		t.Errorf("%v", spans)
	}
}

// numbersOf are the places of all numbers of a value, in order; v is where it is.
func numbersOf(v any) []*int {
	return numbersIn(reflect.ValueOf(v).Elem())
}

func numbersIn(v reflect.Value) []*int {
	var out []*int
	switch v.Kind() {
	case reflect.Struct:
		for i := range v.NumField() {
			out = append(out, numbersIn(v.Field(i))...)
		}
	case reflect.Slice:
		for i := range v.Len() {
			out = append(out, numbersIn(v.Index(i))...)
		}
	case reflect.Int:
		out = append(out, v.Addr().Interface().(*int))
	}
	return out
}
