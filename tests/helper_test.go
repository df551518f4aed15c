package tests

import (
	"reflect"
	"slices"
	"strings"
	"testing"

	"loop.example/wharfgate/impl"
)

// spare is what stands behind the end of each list that is handed in; nobody may write there.
const spare = "behind the end"

// roomy is a list with room behind its end.
func roomy(list ...string) []string {
	out := append(slices.Clone(list), spare, spare)
	return out[:len(list):len(out)]
}

func spareOk(list []string) bool {
	for _, s := range list[len(list):cap(list)] {
		if s != spare {
			return false
		}
	}
	return true
}

// sampleShapes has a field of each kind and each role, and every kind of mark.
func sampleShapes() []impl.GateShape {
	return []impl.GateShape{
		{Kind: "berth", Fields: []impl.GateField{
			{Name: "room", Kind: impl.GateNumber, Least: 1, Most: 64, Must: true, Weighs: "room"},
			{Name: "zone", Kind: impl.GateWord, Words: roomy("a", "b"), Default: "a"},
		}},
		{Kind: "job", Fields: []impl.GateField{
			{Name: "need", Kind: impl.GateNumber, Least: 0, Most: 32, Default: "1", Fixed: true},
			{Name: "mode", Kind: impl.GateWord, Words: roomy("big", "small"), Fixed: true},
			{Name: "note", Kind: impl.GateText, Least: 2, Most: 5, Must: true},
			{Name: "on", Kind: impl.GateLink, To: "berth", Role: impl.GateHolds, Must: true},
			{Name: "by", Kind: impl.GateLink, To: "job", Role: impl.GateLeans, Fixed: true},
			{Name: "of", Kind: impl.GateLink, To: "job", Role: impl.GateOwned},
		}},
		{Kind: "none"},
	}
}

func sampleBerth() impl.GateObject {
	return impl.GateObject{Kind: "berth", Name: "b", Team: "dev", Values: roomy("8", "b"), Holds: roomy("h", "k"), Version: 3}
}

func sampleJob() impl.GateObject {
	return impl.GateObject{Kind: "job", Name: "j", Team: "dev", Values: roomy("1", "big", "xy", "b", "", "k"), Holds: roomy()}
}

func copyShapes(list []impl.GateShape) []impl.GateShape {
	out := slices.Clone(list)
	for i := range out {
		out[i].Fields = slices.Clone(out[i].Fields)
		for j := range out[i].Fields {
			out[i].Fields[j].Words = slices.Clone(out[i].Fields[j].Words)
		}
	}
	return out
}

func copyObject(o impl.GateObject) impl.GateObject {
	o.Values, o.Holds = slices.Clone(o.Values), slices.Clone(o.Holds)
	return o
}

func sameObject(a, b impl.GateObject) bool {
	sameLists := slices.Equal(a.Values, b.Values) && slices.Equal(a.Holds, b.Holds)
	a.Values, a.Holds, b.Values, b.Holds = nil, nil, nil, nil
	return sameLists && reflect.DeepEqual(a, b)
}

// unchanged runs a call and says what it wrote into its shapes or objects, or behind the ends of their lists.
func unchanged(t *testing.T, shapes []impl.GateShape, objects []impl.GateObject, call func()) {
	t.Helper()
	wasShapes := copyShapes(shapes)
	var was []impl.GateObject
	for _, o := range objects {
		was = append(was, copyObject(o))
	}
	call()
	if !reflect.DeepEqual(wasShapes, shapes) {
		t.Errorf("the shapes were changed: %+v", shapes)
	}
	for _, s := range shapes {
		for _, f := range s.Fields {
			if !spareOk(f.Words) {
				t.Errorf("something was written behind the words of %s %s", s.Kind, f.Name)
			}
		}
	}
	for i, o := range objects {
		if !sameObject(was[i], o) {
			t.Errorf("object %d was changed: %+v", i, o)
		}
		if !spareOk(o.Values) || !spareOk(o.Holds) {
			t.Errorf("something was written behind a list of object %d", i)
		}
	}
}

// notOk is lists of shapes that are not ok, though most of each is.
func notOk() map[string][]impl.GateShape {
	out := map[string][]impl.GateShape{}
	for name, spoil := range map[string]func(list []impl.GateShape){
		"kind":    func(list []impl.GateShape) { list[2].Kind = "None" },
		"order":   func(list []impl.GateShape) { list[0], list[1] = list[1], list[0] },
		"default": func(list []impl.GateShape) { list[0].Fields[1].Default = "z" },
	} {
		list := sampleShapes()
		spoil(list)
		out[name] = list
	}
	return out
}

// oddTexts is texts of any bytes.
func oddTexts() []string {
	return []string{"", " ", "\x00", "\xff\xfe", "é", "A", "a b", "a\n", "-", "--", "0", "00", "01", "-1", "+1", "1.0", "1e3", "0x1", "٣", "1_0",
		"1000000", "9999999", "10000000", "99999999999999999999", strings.Repeat("a", 16), strings.Repeat("a", 17), strings.Repeat("~", 40), strings.Repeat("~", 41), strings.Repeat("9", 100000)}
}
