package tests

import (
	"reflect"
	"strconv"
	"strings"
	"testing"
)

// What holds of the memory of every call: nothing is written into an argument or behind its end, and an answer shares nothing.

// told writes out a value; with behind, what stands behind the ends of its lists too.
func told(out *strings.Builder, v reflect.Value, behind bool) {
	switch v.Kind() {
	case reflect.Struct:
		out.WriteString("{")
		for i := range v.NumField() {
			told(out, v.Field(i), behind)
			out.WriteString(" ")
		}
		out.WriteString("}")
	case reflect.Slice:
		size := v.Len()
		out.WriteString("[" + strconv.Itoa(size) + ":")
		if behind {
			size = v.Cap()
		}
		for i := range size {
			told(out, v.Slice(0, size).Index(i), behind)
			out.WriteString(" ")
		}
		out.WriteString("]")
	case reflect.String:
		out.WriteString(strconv.Quote(v.String()))
	case reflect.Int:
		out.WriteString(strconv.FormatInt(v.Int(), 10))
	case reflect.Bool:
		out.WriteString(strconv.FormatBool(v.Bool()))
	default:
		panic("no way to write out " + v.Type().String())
	}
}

// plainText is the same for two values that are the same; the empty list and the nil list are.
func plainText(values ...any) string {
	var out strings.Builder
	for _, v := range values {
		told(&out, reflect.ValueOf(v), false)
	}
	return out.String()
}

// wholeText tells spare room too.
func wholeText(values ...any) string {
	var out strings.Builder
	for _, v := range values {
		told(&out, reflect.ValueOf(v), true)
	}
	return out.String()
}

// same is plainText held against plainText, without writing it out.
func same[T any](a, b T) bool {
	return alike(reflect.ValueOf(a), reflect.ValueOf(b))
}

func alike(a, b reflect.Value) bool {
	switch a.Kind() {
	case reflect.Struct:
		for i := range a.NumField() {
			if !alike(a.Field(i), b.Field(i)) {
				return false
			}
		}
		return true
	case reflect.Slice:
		if a.Len() != b.Len() {
			return false
		}
		for i := range a.Len() {
			if !alike(a.Index(i), b.Index(i)) {
				return false
			}
		}
		return true
	}
	return a.Equal(b)
}

// withRoom is a copy of a value in which each list has marked room behind its end.
func withRoom[T any](v T) T {
	out := reflect.New(reflect.TypeOf(v)).Elem()
	laid(out, reflect.ValueOf(v))
	return out.Interface().(T)
}

func laid(out, v reflect.Value) {
	switch v.Kind() {
	case reflect.Struct:
		for i := range v.NumField() {
			laid(out.Field(i), v.Field(i))
		}
	case reflect.Slice:
		list := reflect.MakeSlice(v.Type(), v.Len()+2, v.Len()+2)
		for i := range list.Len() {
			if i < v.Len() {
				laid(list.Index(i), v.Index(i))
			} else {
				marked(list.Index(i))
			}
		}
		out.Set(list.Slice(0, v.Len()))
	default:
		out.Set(v)
	}
}

func marked(v reflect.Value) {
	switch v.Kind() {
	case reflect.Struct:
		for i := range v.NumField() {
			marked(v.Field(i))
		}
	case reflect.String:
		v.SetString(spare)
	case reflect.Int:
		v.SetInt(-77)
	}
}

// span is the memory of a list, spare room included.
type span struct{ from, to uintptr }

func spansOf(v reflect.Value) []span {
	var out []span
	switch v.Kind() {
	case reflect.Struct:
		for i := range v.NumField() {
			out = append(out, spansOf(v.Field(i))...)
		}
	case reflect.Slice:
		if size := uintptr(v.Cap()) * v.Type().Elem().Size(); size > 0 {
			out = append(out, span{v.Pointer(), v.Pointer() + size})
		}
		for i := range v.Len() {
			out = append(out, spansOf(v.Index(i))...)
		}
	}
	return out
}

func (s span) meets(o span) bool { return s.from < o.to && o.from < s.to }

// ownMemory runs a call, and tells what it wrote into its arguments, or behind their ends, and which memory its answer shares.
func ownMemory(t *testing.T, what string, args []any, call func() any) {
	t.Helper()
	was := wholeText(args...)
	answer := spansOf(reflect.ValueOf(call()))
	if wholeText(args...) != was {
		t.Errorf("%s: an argument was changed, or what stands behind it", what)
	}
	var given []span
	for _, a := range args {
		given = append(given, spansOf(reflect.ValueOf(a))...)
	}
	for i, s := range answer {
		for _, o := range given {
			if s.meets(o) {
				t.Errorf("%s: the answer shares memory with an argument", what)
			}
		}
		for _, o := range answer[i+1:] {
			if s.meets(o) {
				t.Errorf("%s: two lists of the answer share memory", what)
			}
		}
	}
}
