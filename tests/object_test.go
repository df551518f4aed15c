package tests

import (
	"math"
	"slices"
	"strings"
	"testing"

	"loop.example/wharfgate/impl"
)

func TestFill(t *testing.T) {
	shapes := sampleShapes()
	for i, c := range []struct{ kind, was, is string }{
		{"berth", "8,", "8,a"}, {"berth", "8,b", "8,b"}, {"berth", ",", ",a"}, {"berth", "no number,no word", "no number,no word"}, {"berth", " ,\x00", " ,\x00"},
		{"job", ",,,,,", "1,,,,,"}, {"job", "0,,,,,", "0,,,,,"}, {"job", ",small,xy,b,c,d", "1,small,xy,b,c,d"},
	} {
		o := impl.GateObject{Kind: c.kind, Name: "No Name", Team: "", Values: strings.Split(c.was, ","), Ending: true, Holds: []string{"z", "a", "z", "z"}, Version: -7}
		want := copyObject(o)
		want.Values = strings.Split(c.is, ",")
		if got := impl.GateFill(shapes, o); !sameObject(got, want) {
			t.Errorf("case %d: %+v", i, got)
		}
	}
	none := impl.GateObject{Kind: "none", Name: "n", Team: "dev"}
	if got := impl.GateFill(shapes, none); !sameObject(got, none) {
		t.Errorf("a shape without fields: %+v", got)
	}
}

func TestFillGivesTheObjectAsItIs(t *testing.T) {
	o := impl.GateObject{Kind: "berth", Name: "b", Team: "dev", Values: []string{"", ""}, Ending: true, Holds: []string{"h"}, Version: 9}
	for why, shapes := range notOk() {
		if got := impl.GateFill(shapes, o); !sameObject(got, o) {
			t.Errorf("%s: %+v", why, got)
		}
	}
	for _, kind := range append(oddTexts(), "ship") {
		other := copyObject(o)
		other.Kind = kind
		if got := impl.GateFill(sampleShapes(), other); !sameObject(got, other) {
			t.Errorf("no shape of %.20q: %+v", kind, got)
		}
	}
	for _, values := range [][]string{nil, {}, {""}, {"", "", ""}, make([]string, 50)} {
		other := copyObject(o)
		other.Values = values
		if got := impl.GateFill(sampleShapes(), other); !sameObject(got, other) {
			t.Errorf("%d values: %+v", len(values), got)
		}
	}
	if got := impl.GateFill(nil, o); !sameObject(got, o) {
		t.Errorf("no shapes: %+v", got)
	}
}

// scribble writes over all that an object's lists reach, spare room included.
func scribble(o impl.GateObject) {
	for _, list := range [][]string{o.Values[:cap(o.Values)], o.Holds[:cap(o.Holds)]} {
		for i := range list {
			list[i] = "scribbled"
		}
	}
}

func TestFillIsNewMemory(t *testing.T) {
	for why, shapes := range map[string][]impl.GateShape{"filled": sampleShapes(), "as it is": notOk()["order"], "no shapes": nil} {
		for _, o := range []impl.GateObject{sampleBerth(), sampleJob(), {Kind: "berth", Values: roomy("", ""), Holds: roomy("h")}} {
			unchanged(t, shapes, []impl.GateObject{o}, func() { scribble(impl.GateFill(shapes, o)) })
			got := impl.GateFill(shapes, o)
			holds := slices.Clone(got.Holds)
			got.Values = append(got.Values[:0], make([]string, cap(got.Values))...)
			if !slices.Equal(got.Holds, holds) {
				t.Errorf("%s: two lists of the answer share memory", why)
			}
		}
	}
	// One list given twice is two lists in the answer.
	both := roomy("", "a")
	got := impl.GateFill(sampleShapes(), impl.GateObject{Kind: "berth", Values: both, Holds: both})
	if !slices.Equal(got.Values, []string{"", "a"}) || !slices.Equal(got.Holds, []string{"", "a"}) {
		t.Errorf("%+v", got)
	}
	got.Values[1] = "x"
	if got.Holds[1] != "a" || both[1] != "a" {
		t.Error("shared memory")
	}
}

func TestCheckWhole(t *testing.T) {
	for why, c := range map[string]struct {
		turn func(o *impl.GateObject)
		code int
	}{
		"as it is":          {func(o *impl.GateObject) {}, 0},
		"ending":            {func(o *impl.GateObject) { o.Ending = true }, 0},
		"no kind":           {func(o *impl.GateObject) { o.Kind = "" }, 1},
		"no shape":          {func(o *impl.GateObject) { o.Kind = "ship" }, 1},
		"another shape":     {func(o *impl.GateObject) { o.Kind = "job" }, 1},
		"no name":           {func(o *impl.GateObject) { o.Name = "" }, 1},
		"name no name":      {func(o *impl.GateObject) { o.Name = "B" }, 1},
		"name of 16":        {func(o *impl.GateObject) { o.Name = strings.Repeat("b", 16) }, 0},
		"name of 17":        {func(o *impl.GateObject) { o.Name = strings.Repeat("b", 17) }, 1},
		"no team":           {func(o *impl.GateObject) { o.Team = "" }, 1},
		"team no name":      {func(o *impl.GateObject) { o.Team = "d_" }, 1},
		"team of 16":        {func(o *impl.GateObject) { o.Team = strings.Repeat("9", 16) }, 0},
		"team of 17":        {func(o *impl.GateObject) { o.Team = strings.Repeat("9", 17) }, 1},
		"no values":         {func(o *impl.GateObject) { o.Values = nil }, 1},
		"too few values":    {func(o *impl.GateObject) { o.Values = []string{"8"} }, 1},
		"too many values":   {func(o *impl.GateObject) { o.Values = []string{"8", "a", ""} }, 1},
		"no holds":          {func(o *impl.GateObject) { o.Holds = nil }, 0},
		"three holds":       {func(o *impl.GateObject) { o.Holds = []string{"a", "aa", "b"} }, 0},
		"four holds":        {func(o *impl.GateObject) { o.Holds = []string{"a", "b", "c", "d"} }, 1},
		"holds twice":       {func(o *impl.GateObject) { o.Holds = []string{"a", "a"} }, 1},
		"holds descending":  {func(o *impl.GateObject) { o.Holds = []string{"a", "c", "b"} }, 1},
		"an empty hold":     {func(o *impl.GateObject) { o.Holds = []string{""} }, 1},
		"a hold no name":    {func(o *impl.GateObject) { o.Holds = []string{"a", "b!"} }, 1},
		"a hold of 17":      {func(o *impl.GateObject) { o.Holds = []string{strings.Repeat("h", 17)} }, 1},
		"version 0":         {func(o *impl.GateObject) { o.Version = 0 }, 0},
		"version -1":        {func(o *impl.GateObject) { o.Version = -1 }, 1},
		"version at most":   {func(o *impl.GateObject) { o.Version = 1000000 }, 0},
		"version above":     {func(o *impl.GateObject) { o.Version = 1000001 }, 1},
		"version far below": {func(o *impl.GateObject) { o.Version = math.MinInt }, 1},
		"version far above": {func(o *impl.GateObject) { o.Version = math.MaxInt }, 1},
	} {
		o := sampleBerth()
		c.turn(&o)
		if code, place := impl.GateCheck(sampleShapes(), o); code != c.code || place != 0 {
			t.Errorf("%s: %d at %d", why, code, place)
		}
		if c.code == 0 {
			continue
		}
		// The first code goes ahead of what is wrong with a later field.
		if len(o.Values) == 2 {
			o.Values = []string{"8", "unfit"}
		}
		if code, place := impl.GateCheck(sampleShapes(), o); code != 1 || place != 0 {
			t.Errorf("%s and a value that does not fit: %d at %d", why, code, place)
		}
	}
}

func TestCheckShapesNotOk(t *testing.T) {
	for why, shapes := range notOk() {
		for _, o := range []impl.GateObject{sampleBerth(), sampleJob(), {}} {
			if code, place := impl.GateCheck(shapes, o); code != 1 || place != 0 {
				t.Errorf("%s: %d at %d", why, code, place)
			}
		}
	}
	if code, place := impl.GateCheck(nil, sampleBerth()); code != 1 || place != 0 {
		t.Errorf("no shapes: %d at %d", code, place)
	}
	if code, place := impl.GateCheck(sampleShapes(), impl.GateObject{Kind: "none", Name: "n", Team: "t"}); code != 0 || place != 0 {
		t.Errorf("a shape without fields: %d at %d", code, place)
	}
}

// The fields of a job: need (number 0 to 32), mode (word), note (text of 2 to 5, Must), on (link, Must), by, of (links).
func TestCheckFields(t *testing.T) {
	for i, c := range []struct {
		values      string
		code, place int
	}{
		{"1,big,xy,b,c,d", 0, 0}, {",,xy,b,,", 0, 0}, {"0,small,xyzzy,b,,", 0, 0}, {"32,,!~,b,,", 0, 0},
		{"33,,xy,b,,", 3, 0}, {"01,,xy,b,,", 3, 0}, {"x,,xy,b,,", 3, 0},
		{"1,huge,xy,b,,", 3, 1}, {"1,big,,b,,", 2, 2}, {"1,big,x,b,,", 3, 2}, {"1,big,xyzzyx,b,,", 3, 2}, {"1,big,x y,b,,", 3, 2},
		{"1,big,xy,,,", 2, 3}, {"1,big,xy,B,,", 3, 3}, {"1,,xy,b,C,", 3, 4}, {"1,,xy,b,,\xff", 3, 5},
		{"1,,xy,b,," + strings.Repeat("d", 16), 0, 0}, {"1,,xy,b,," + strings.Repeat("d", 17), 3, 5},
		// The first field, not the first code.
		{"33,,,,,", 3, 0}, {"1,huge,,,,", 3, 1}, {"1,,,B,C,D", 2, 2}, {"1,,x,,,", 3, 2}, {"1,,xy,,C,", 2, 3}, {"33,huge,x,B,C,D", 3, 0},
	} {
		o := impl.GateObject{Kind: "job", Name: "j", Team: "dev", Values: strings.Split(c.values, ",")}
		if code, place := impl.GateCheck(sampleShapes(), o); code != c.code || place != c.place {
			t.Errorf("case %d, %q: %d at %d", i, c.values, code, place)
		}
	}
}

// A Must field with a Default is still not set while its value is empty.
func TestCheckDoesNotFill(t *testing.T) {
	shapes := []impl.GateShape{{Kind: "a", Fields: []impl.GateField{{Name: "f", Kind: impl.GateNumber, Most: 3, Default: "3", Must: true}}}}
	o := impl.GateObject{Kind: "a", Name: "n", Team: "t", Values: []string{""}}
	if code, place := impl.GateCheck(shapes, o); code != 2 || place != 0 {
		t.Errorf("%d at %d", code, place)
	}
	if code, place := impl.GateCheck(shapes, impl.GateFill(shapes, o)); code != 0 || place != 0 {
		t.Errorf("filled: %d at %d", code, place)
	}
}

func TestCheckAnyBytes(t *testing.T) {
	for _, text := range oddTexts() {
		o := impl.GateObject{Kind: text, Name: text, Team: text, Values: []string{text, text}, Holds: []string{text, text}}
		if code, place := impl.GateCheck(sampleShapes(), o); code != 1 || place != 0 {
			t.Errorf("%.20q: %d at %d", text, code, place)
		}
	}
}

// Of a job need, mode and by are Fixed.
func TestTurned(t *testing.T) {
	for i, c := range []struct {
		old, new    string
		code, place int
	}{
		{"1,big,xy,b,c,d", "1,big,xy,b,c,d", 0, 0},
		{"1,big,xy,b,c,d", "1,big,zz,q,c,", 0, 0},
		{"1,big,xy,b,c,d", "2,big,xy,b,c,d", 4, 0},
		{"1,big,xy,b,c,d", ",big,xy,b,c,d", 4, 0},
		{"1,big,xy,b,c,d", "1,small,xy,b,c,d", 4, 1},
		{"1,big,xy,b,c,d", "1,,zz,q,,", 4, 1},
		{"1,big,xy,b,c,d", "1,big,zz,q,,d", 4, 4},
		{"1,big,xy,b,c,d", "1,big,zz,q,e,d", 4, 4},
		{"1,big,xy,b,c,d", "2,small,zz,q,e,d", 4, 0},
		{",,xy,b,,", "1,big,xy,b,c,d", 0, 0},
		{",,xy,b,,", ",,xy,b,,", 0, 0},
		{",big,xy,b,,", "3,small,xy,b,,", 4, 1},
		// A fault of one of the two goes ahead, without its place.
		{"1,big,xy,b,c,d", "33,small,xy,b,c,d", 1, 0},
		{"1,big,xy,b,c,d", "2,big,,b,c,d", 1, 0},
		{"1,big,xy,b,c,D", "2,big,xy,b,c,d", 1, 0},
		{"1,big,xy,,c,d", "1,big,xy,b,c,d", 1, 0},
		{"1,big,xy,b,c,d", "1,big,xy,b,c", 1, 0},
		{"1,big,xy,b,c", "1,big,xy,b,c,d", 1, 0},
		{"1,big,xy,b,c", "1,big,xy,b,c", 1, 0},
	} {
		old := impl.GateObject{Kind: "job", Name: "j", Team: "dev", Values: strings.Split(c.old, ","), Version: 4}
		o := impl.GateObject{Kind: "job", Name: "j", Team: "dev", Values: strings.Split(c.new, ","), Ending: true, Holds: []string{"h"}, Version: 2}
		if code, place := impl.GateTurned(sampleShapes(), old, o); code != c.code || place != c.place {
			t.Errorf("case %d: %d at %d", i, code, place)
		}
	}
}

func TestTurnedWhole(t *testing.T) {
	spoilers := map[string]func(o *impl.GateObject){
		"another kind":     func(o *impl.GateObject) { *o = sampleBerth(); o.Name = "j" },
		"another name":     func(o *impl.GateObject) { o.Name = "k" },
		"another team":     func(o *impl.GateObject) { o.Team = "lab" },
		"no shape":         func(o *impl.GateObject) { o.Kind = "ship" },
		"no name":          func(o *impl.GateObject) { o.Name = "J" },
		"version above":    func(o *impl.GateObject) { o.Version = 1000001 },
		"holds descending": func(o *impl.GateObject) { o.Holds = []string{"b", "a"} },
		"nothing":          func(o *impl.GateObject) { *o = impl.GateObject{} },
	}
	for why, spoil := range spoilers {
		good, bad := sampleJob(), sampleJob()
		good.Values[0] = "2"
		spoil(&bad)
		for _, pair := range [][2]impl.GateObject{{good, bad}, {bad, good}} {
			if code, place := impl.GateTurned(sampleShapes(), pair[0], pair[1]); code != 1 || place != 0 {
				t.Errorf("%s: %d at %d", why, code, place)
			}
		}
	}
	for why, shapes := range notOk() {
		if code, place := impl.GateTurned(shapes, sampleJob(), sampleJob()); code != 1 || place != 0 {
			t.Errorf("%s: %d at %d", why, code, place)
		}
	}
	// Two kinds with like fields are two kinds.
	like := []impl.GateShape{{Kind: "a"}, {Kind: "b"}}
	if code, place := impl.GateTurned(like, impl.GateObject{Kind: "a", Name: "n", Team: "t"}, impl.GateObject{Kind: "b", Name: "n", Team: "t"}); code != 1 || place != 0 {
		t.Errorf("two kinds: %d at %d", code, place)
	}
	// Both with one name, that is none.
	no := impl.GateObject{Kind: "a", Name: "N", Team: "t"}
	if code, place := impl.GateTurned(like, no, no); code != 1 || place != 0 {
		t.Errorf("no name: %d at %d", code, place)
	}
}

func TestObjectsAreNotChanged(t *testing.T) {
	for _, shapes := range [][]impl.GateShape{sampleShapes(), notOk()["default"], nil} {
		objects := []impl.GateObject{sampleBerth(), sampleJob(), {Kind: "job", Name: "j", Team: "dev", Values: roomy("", "", "", "", "", ""), Holds: roomy("z", "a")}, {}}
		unchanged(t, shapes, objects, func() {
			for _, old := range objects {
				impl.GateFill(shapes, old)
				impl.GateCheck(shapes, old)
				for _, o := range objects {
					impl.GateTurned(shapes, old, o)
				}
			}
		})
	}
}
