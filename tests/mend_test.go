package tests

import (
	"reflect"
	"slices"
	"strings"
	"testing"

	"loop.example/wharfgate/impl"
)

// mendShapes is sampleShapes, and between them a kind of six texts that mends can pass on, and one with two of the same names.
func mendShapes() []impl.GateShape {
	list := sampleShapes()
	row := impl.GateShape{Kind: "row"}
	for _, name := range []string{"p", "q", "r", "s", "t", "u"} {
		row.Fields = append(row.Fields, impl.GateField{Name: name, Kind: impl.GateText, Least: 1, Most: 3})
	}
	row.Fields[5].Default = "dd"
	pair := impl.GateShape{Kind: "pair", Fields: slices.Clone(row.Fields[:2])}
	return []impl.GateShape{list[0], list[1], list[2], pair, row}
}

// mendOf reads a mend from words: "job.need=8", "job.need=<mode", each with "if mode is big" behind it.
func mendOf(text string) impl.GateMend {
	turn, when, asked := strings.Cut(text, " if ")
	to, what, _ := strings.Cut(turn, "=")
	kind, field, _ := strings.Cut(to, ".")
	m := impl.GateMend{Kind: kind, Field: field, Put: what}
	if from, found := strings.CutPrefix(what, "<"); found {
		m.Put, m.From = "", from
	}
	if asked {
		m.When, m.Is, _ = strings.Cut(when, " is ")
	}
	return m
}

func mendsOf(texts ...string) []impl.GateMend {
	var list []impl.GateMend
	for _, text := range texts {
		list = append(list, mendOf(text))
	}
	return list
}

func TestMendsOkOneMend(t *testing.T) {
	for text, want := range map[string]bool{
		"job.need=8 if mode is big": true, "job.need=8": true, "job.note=<mode": true, "job.note=<mode if need is 1": true, "job.note=<mode if mode is big": true,
		"job.need=8 if mode is ": true, "job.need=8 if mode is no word": true, "job.need=8 if mode is \x00\xff": true, "job.need=8 if mode is " + strings.Repeat("x", 1000): true,
		"job.need=8 if  is big": false, "job.note=<mode if  is \x00": false,
		"job.need=8 if need is 1": false, "job.need=8 if need is ": false, "job.need=<need": false, "job.need=<need if mode is big": false, "job.note=<mode if note is xx": false,
		"job.need=": false, "job.need= if mode is big": false,
		"job.need=32": true, "job.need=0": true, "job.need=33": false, "job.need=08": false, "job.need=x": false, "job.mode=small": true, "job.mode=1": false, "job.mode=": false,
		"job.note=xy": true, "job.note=x": false, "job.note=xyzzyx": false, "job.note=x y": false, "job.note=\xff\xff": false, "berth.zone=c": false,
		"job.on=b": false, "job.on=<mode": false, "job.by=j": false, "job.of=<note": false,
		"job.need=8 if on is b": false, "job.need=8 if by is ": false, "job.need=<of": false, "job.note=<on if mode is big": false,
		"job.size=8": false, "job.=8": false, "job.zone=a": false, "job.Need=8": false,
		"job.need=8 if size is 1": false, "job.need=8 if zone is a": false, "job.need=<size": false, "job.need=<room": false, "job.need=<zone if mode is big": false,
		"ship.need=8": false, ".need=8": false, "Job.need=8": false, "none.need=8": false, "berth.need=8": false, "berth.room=8": true, "berth.zone=<room": true,
		"row.u=ddd": true, "row.u=dddd": false, "pair.u=d": false, "pair.p=<q": true,
	} {
		if got := impl.GateMendsOk(mendShapes(), mendsOf(text)); got != want {
			t.Errorf("%.40q: %v", text, got)
		}
		// One that is not ok spoils all, wherever it stands.
		for _, list := range [][]impl.GateMend{mendsOf("berth.room=8", text), mendsOf(text, "berth.room=8")} {
			if got := impl.GateMendsOk(mendShapes(), list); got != want {
				t.Errorf("%.40q beside another one: %v", text, got)
			}
		}
	}
	if impl.GateMendsOk(mendShapes(), []impl.GateMend{{Kind: "job", Field: "note", Put: "xy", From: "mode"}}) {
		t.Error("both Put and From")
	}
	if impl.GateMendsOk(mendShapes(), []impl.GateMend{{}}) {
		t.Error("the empty mend")
	}
}

func TestMendsOkCount(t *testing.T) {
	if !impl.GateMendsOk(nil, nil) || !impl.GateMendsOk(mendShapes(), nil) || !impl.GateMendsOk(mendShapes(), []impl.GateMend{}) {
		t.Error("no mends")
	}
	list := make([]impl.GateMend, 0, 13)
	for range 12 {
		list = append(list, mendOf("job.need=8 if mode is big"))
	}
	if !impl.GateMendsOk(mendShapes(), list) {
		t.Error("twelve")
	}
	list = append(list, mendOf("berth.room=3"))
	if impl.GateMendsOk(mendShapes(), list) {
		t.Error("thirteen")
	}
	if impl.GateMendsOk(mendShapes(), make([]impl.GateMend, 100000)) {
		t.Error("very many")
	}
}

func TestMendsOkRow(t *testing.T) {
	for _, c := range []struct {
		mends string
		want  bool
	}{
		// Rows: forward, backward, two ways to one field, several mends that read one.
		{"row.q=<p; row.r=<q; row.s=<r; row.t=<s; row.u=<t", true},
		{"row.p=<q; row.q=<r; row.r=<s; row.s=<t; row.t=<u", true},
		{"row.t=<u; row.p=<q; row.s=<t; row.r=<s; row.q=<r", true},
		{"row.q=<p; row.r=<p; row.s=<q if r is x; row.s=<r", true},
		{"row.p=<q if r is x; row.q=<s if r is x; row.r=<s", true},
		{"row.p=a; row.p=b; row.p=<q; row.p=<q if r is x", true},
		// Circles of two, by When, by From and by one of each.
		{"row.p=<q; row.q=<p", false},
		{"row.p=a if q is x; row.q=b if p is x", false},
		{"row.p=<q; row.q=b if p is x", false},
		{"row.p=<r if q is x; row.q=<s if p is x", false},
		{"row.t=<u; row.p=a; row.u=<t", false},
		// A circle stays one though its mends never apply, or never decide.
		{"row.p=a; row.p=<q; row.q=b; row.q=<p", false},
		{"row.p=<q if r is x; row.q=<p if r is y; row.r=z", false},
		// Circles of three, of all six, and with fields on the way to them.
		{"row.p=<q; row.q=<r; row.r=<p", false},
		{"row.p=<q; row.q=<r; row.r=<s; row.s=<t; row.t=<u; row.u=<p", false},
		{"row.q=<p; row.r=<q; row.s=<r; row.t=<s; row.u=<t; row.p=<u", false},
		{"row.p=<q; row.q=<r; row.r=<s; row.s=<r", false},
		{"row.s=<r; row.r=<s; row.q=<s; row.p=<q", false},
		{"row.p=<q if u is x; row.q=<r; row.r=a if s is x; row.s=<q", false},
		// Two kinds: what one reads is nothing to the other one.
		{"row.p=<q; pair.q=<p", true},
		{"pair.p=<q; row.q=<p; row.r=<q", true},
		{"pair.p=<q; pair.q=<p; row.p=<q", false},
		{"pair.p=<q; row.p=<q; row.q=<p", false},
		{"berth.room=<zone; berth.zone=<room; row.p=<q", false},
		{"berth.room=<zone; job.need=<note; job.note=<mode; pair.p=<q; row.p=<q", true},
		{"berth.room=<zone; job.need=<note; job.note=<need; pair.p=<q; row.p=<q", false},
	} {
		list := mendsOf(strings.Split(c.mends, "; ")...)
		if got := impl.GateMendsOk(mendShapes(), list); got != c.want {
			t.Errorf("%s: %v", c.mends, got)
		}
		slices.Reverse(list)
		if got := impl.GateMendsOk(mendShapes(), list); got != c.want {
			t.Errorf("%s, the last one first: %v", c.mends, got)
		}
	}
}

func TestMendsOkShapesNotOk(t *testing.T) {
	for why, shapes := range notOk() {
		if impl.GateMendsOk(shapes, nil) || impl.GateMendsOk(shapes, mendsOf("berth.room=8")) {
			t.Errorf("%s", why)
		}
	}
	if impl.GateMendsOk(nil, mendsOf("berth.room=8")) {
		t.Error("no shapes")
	}
}

func TestMendsOkAnyBytes(t *testing.T) {
	for _, text := range oddTexts() {
		for _, spoil := range []func(m *impl.GateMend){
			func(m *impl.GateMend) { m.Kind = text },
			func(m *impl.GateMend) { m.Field = text },
			func(m *impl.GateMend) { m.When, m.Is = text, "1" },
			func(m *impl.GateMend) { m.Put, m.From = "", text },
			func(m *impl.GateMend) {
				*m = impl.GateMend{Kind: text, Field: text, When: text, Is: text, Put: text, From: text}
			},
		} {
			m := impl.GateMend{Kind: "job", Field: "need", Put: "8"}
			spoil(&m)
			if impl.GateMendsOk(mendShapes(), []impl.GateMend{m}) {
				t.Errorf("%.60q", m)
			}
		}
	}
}

// mendCase is mends, the values of an object ahead of them, and those behind them.
type mendCase struct{ mends, was, is string }

func tryMends(t *testing.T, kind string, call func([]impl.GateShape, []impl.GateMend, impl.GateObject) impl.GateObject, cases []mendCase) {
	t.Helper()
	for _, c := range cases {
		// What is no value of the object comes through, whatever it is.
		o := impl.GateObject{Kind: kind, Name: "No Name", Team: "", Values: strings.Split(c.was, ","), Ending: true, Holds: []string{"z", "a", "z", "z"}, Version: -7}
		want := copyObject(o)
		want.Values = strings.Split(c.is, ",")
		list := mendsOf(strings.Split(c.mends, "; ")...)
		if !impl.GateMendsOk(mendShapes(), list) {
			t.Errorf("%s are not ok", c.mends)
		}
		if got := call(mendShapes(), list, o); !sameObject(got, want) {
			t.Errorf("%s: %q became %q", c.mends, c.was, got.Values)
		}
	}
}

func TestMended(t *testing.T) {
	tryMends(t, "job", impl.GateMended, []mendCase{
		// By When: has the value, another one, none; Is empty.
		{"job.need=8 if mode is big", "3,big,xy,b,c,d", "8,big,xy,b,c,d"},
		{"job.need=8 if mode is big", "3,small,xy,b,c,d", "3,small,xy,b,c,d"},
		{"job.need=8 if mode is big", ",,,,,", ",,,,,"},
		{"job.need=8 if mode is ", "3,,xy,b,c,d", "8,,xy,b,c,d"},
		{"job.need=8 if mode is ", "3,big,xy,b,c,d", "3,big,xy,b,c,d"},
		{"job.need=8 if mode is no word", "3,no word,,,,", "8,no word,,,,"},
		{"job.need=8 if mode is \xff", "3,\xff,,,,", "8,\xff,,,,"},
		// Neither: always.
		{"job.need=8", ",,,,,", "8,,,,,"},
		{"job.need=0", "unfit,,,,,", "0,,,,,"},
		// By From: is set, is not; what it has need not fit.
		{"job.note=<mode", ",big,,,,", ",big,big,,,"},
		{"job.note=<mode", ",,xy,,,", ",,xy,,,"},
		{"job.need=<mode", "1,small,xy,,,", "small,small,xy,,,"},
		{"job.need=<mode", "1, \x00,xy,,,", " \x00, \x00,xy,,,"},
		// By both.
		{"job.note=<mode if need is 1", "1,big,,,,", "1,big,big,,,"},
		{"job.note=<mode if need is 1", "1,,xy,,,", "1,,xy,,,"},
		{"job.note=<mode if need is 1", "2,big,xy,,,", "2,big,xy,,,"},
		{"job.note=<mode if need is ", ",big,xy,,,", ",big,big,,,"},
		{"job.note=<mode if mode is big", ",big,xy,,,", ",big,big,,,"},
		{"job.note=<mode if mode is ", ",,xy,,,", ",,xy,,,"},
		// The first that applies decides.
		{"job.need=1; job.need=2", "9,,,,,", "1,,,,,"},
		{"job.need=1 if mode is big; job.need=2", "9,big,,,,", "1,big,,,,"},
		{"job.need=1 if mode is big; job.need=2", "9,,,,,", "2,,,,,"},
		{"job.need=1 if mode is big; job.need=2 if mode is small; job.need=3", "9,small,,,,", "2,small,,,,"},
		{"job.need=1 if mode is big; job.need=2 if mode is small", "9,,,,,", "9,,,,,"},
		{"job.need=<note; job.need=2", "9,big,,,,", "2,big,,,,"},
		{"job.need=<note; job.need=2", "9,big,xy,,,", "xy,big,xy,,,"},
		{"job.need=<note if mode is big; job.need=<mode; job.need=4", "9,small,xy,,,", "small,small,xy,,,"},
		{"job.need=<note if mode is big; job.need=<mode; job.need=4", "9,,xy,,,", "4,,xy,,,"},
		// Mends of other kinds, with fields of these names, say nothing here.
		{"berth.room=5; berth.zone=b; row.p=x; pair.p=<q", "3,big,xy,b,c,d", "3,big,xy,b,c,d"},
		{"berth.room=5; job.need=6; berth.zone=b", "3,big,xy,b,c,d", "6,big,xy,b,c,d"},
	})
	tryMends(t, "pair", impl.GateMended, []mendCase{{"row.p=x; row.q=<p; pair.p=<q", "a,b", "b,b"}, {"pair.q=<p; row.p=<q", ",b", ",b"}})
}

func TestMendedInARow(t *testing.T) {
	tryMends(t, "row", impl.GateMended, []mendCase{
		// What the first puts goes down the whole row, whichever way the fields and the mends stand.
		{"row.q=<p; row.r=<q; row.s=<r; row.t=<s; row.u=<t", "a,b,c,d,e,f", "a,a,a,a,a,a"},
		{"row.u=<t; row.t=<s; row.s=<r; row.r=<q; row.q=<p", "a,b,c,d,e,f", "a,a,a,a,a,a"},
		{"row.p=<q; row.q=<r; row.r=<s; row.s=<t; row.t=<u", "a,b,c,d,e,f", "f,f,f,f,f,f"},
		{"row.p=<q; row.q=<r; row.r=<s; row.s=<t; row.t=<u; row.u=z", "a,b,c,d,e,f", "z,z,z,z,z,z"},
		{"row.p=<q; row.q=<r; row.r=<s; row.s=<t; row.t=<u", "a,,,d,,", "d,d,d,d,,"},
		{"row.p=<u; row.u=<q; row.q=<t; row.t=<r; row.r=<s", "a,b,c,d,e,f", "d,d,d,d,d,d"},
		// A When sees what was put, not what was there.
		{"row.p=y if q is x; row.q=x", "a,b,c,d,e,f", "y,x,c,d,e,f"},
		{"row.p=y if q is b; row.q=x", "a,b,c,d,e,f", "a,x,c,d,e,f"},
		{"row.p=y if q is ; row.q=x", "a,,c,d,e,f", "a,x,c,d,e,f"},
		{"row.p=1 if q is 2; row.q=2 if r is 3; row.r=3 if s is 4; row.s=4 if t is 5; row.t=5 if u is 6", "a,b,c,d,e,6", "1,2,3,4,5,6"},
		{"row.p=1 if q is 2; row.q=2 if r is 3; row.r=3 if s is 4; row.s=4 if t is 5; row.t=5 if u is 6", "a,b,3,d,e,f", "1,2,3,d,e,f"},
		// A From that was not set is, once it was put.
		{"row.p=<q; row.p=n; row.q=x if r is y", ",,y,,,", "x,x,y,,,"},
		{"row.p=<q; row.p=n; row.q=x if r is y", ",,z,,,", "n,,z,,,"},
		// Two ways to one field.
		{"row.p=<q if r is x; row.p=<r; row.q=<s; row.r=x if s is k; row.r=w", "a,b,c,k,e,f", "k,k,x,k,e,f"},
		{"row.p=<q if r is x; row.p=<r; row.q=<s; row.r=x if s is k; row.r=w", "a,b,c,j,e,f", "w,j,w,j,e,f"},
		// GateMended does not fill.
		{"row.p=x if u is dd; row.q=y if u is ", ",,,,,", ",y,,,,"},
	})
}

func TestShaped(t *testing.T) {
	tryMends(t, "row", impl.GateShaped, []mendCase{
		{"row.p=x if u is dd; row.q=y if u is ", ",,,,,", "x,,,,,dd"},
		{"row.p=x if u is dd; row.q=y if u is ", ",,,,,e", ",,,,,e"},
		{"row.p=<u", "a,,,,,", "dd,,,,,dd"},
		{"row.u=<p; row.q=<u", ",,,,,", ",dd,,,,dd"},
		{"row.u=<p; row.q=<u", "a,,,,,", "a,a,,,,a"},
		{"pair.p=x", ",,,,,", ",,,,,dd"},
	})
	tryMends(t, "job", impl.GateShaped, []mendCase{
		{"job.need=8 if mode is big", ",,,,,", "1,,,,,"},
		{"job.need=8 if mode is big", ",big,,b,,", "8,big,,b,,"},
		{"job.mode=big if need is 1", ",,,,,", "1,big,,,,"},
		{"job.mode=big if need is ", ",,,,,", "1,,,,,"},
	})
	o := impl.GateObject{Kind: "berth", Values: []string{"", ""}}
	if got := impl.GateShaped(mendShapes(), nil, o); !slices.Equal(got.Values, []string{"", "a"}) {
		t.Errorf("without mends: %q", got.Values)
	}
	none := impl.GateObject{Kind: "none", Name: "n", Team: "t"}
	for _, call := range mendCalls() {
		if got := call(mendShapes(), mendsOf("job.need=8"), none); !sameObject(got, none) {
			t.Errorf("a shape without fields: %+v", got)
		}
	}
}

func mendCalls() []func([]impl.GateShape, []impl.GateMend, impl.GateObject) impl.GateObject {
	return []func([]impl.GateShape, []impl.GateMend, impl.GateObject) impl.GateObject{impl.GateMended, impl.GateShaped}
}

// badMends is lists of mends that are not ok, each with one ahead that would turn a berth.
func badMends() map[string][]impl.GateMend {
	lead := "berth.room=9"
	return map[string][]impl.GateMend{
		"unfit":             mendsOf(lead, "job.need=33"),
		"a link":            mendsOf(lead, "job.on=b"),
		"its own From":      mendsOf(lead, "job.need=<need"),
		"no kind":           mendsOf(lead, "ship.need=8"),
		"a circle":          mendsOf(lead, "berth.zone=<room", "berth.room=<zone"),
		"a circle of jobs":  mendsOf(lead, "job.note=<mode", "job.mode=<note"),
		"one more":          append(mendsOf(lead), slices.Repeat(mendsOf("job.need=8"), 12)...),
		"the empty mend":    append(mendsOf(lead), impl.GateMend{}),
		"Is without a When": mendsOf(lead, "job.need=8 if  is x"),
	}
}

func TestMendedGivesTheObjectAsItIs(t *testing.T) {
	o := impl.GateObject{Kind: "berth", Name: "b", Team: "dev", Values: []string{"", ""}, Ending: true, Holds: []string{"h"}, Version: 9}
	good := mendsOf("berth.room=9")
	for _, call := range mendCalls() {
		if got := call(mendShapes(), good, o); got.Values[0] != "9" {
			t.Errorf("the case is a good one: %+v", got)
		}
		for why, mends := range badMends() {
			if got := call(mendShapes(), mends, o); !sameObject(got, o) {
				t.Errorf("%s: %+v", why, got)
			}
		}
		for why, shapes := range notOk() {
			if got := call(shapes, good, o); !sameObject(got, o) {
				t.Errorf("shapes, %s: %+v", why, got)
			}
		}
		for _, kind := range append(oddTexts(), "ship") {
			other := copyObject(o)
			other.Kind = kind
			if got := call(mendShapes(), good, other); !sameObject(got, other) {
				t.Errorf("no shape of %.20q: %+v", kind, got)
			}
		}
		for _, values := range [][]string{nil, {}, {""}, {"", "", ""}, make([]string, 50)} {
			other := copyObject(o)
			other.Values = values
			if got := call(mendShapes(), good, other); !sameObject(got, other) {
				t.Errorf("%d values: %+v", len(values), got)
			}
		}
		if got := call(nil, nil, o); !sameObject(got, o) {
			t.Errorf("no shapes: %+v", got)
		}
	}
}

// Values and Is may be any texts; they are handed on and compared byte by byte.
func TestMendedAnyBytes(t *testing.T) {
	mends := mendsOf("row.p=x", "row.q=<r", "row.t=n if s is ", "row.t=y if s is ", "row.u=<r", "row.u=z")
	for _, text := range oddTexts() {
		mends[2].Is, mends[3].Is = text+"?", text
		o := impl.GateObject{Kind: "row", Name: text, Team: text, Values: []string{"", "", text, text, "", ""}, Holds: []string{text}}
		want := copyObject(o)
		want.Values = []string{"x", text, text, text, "y", text}
		if text == "" {
			want.Values[5] = "z"
		}
		for _, call := range mendCalls() {
			if got := call(mendShapes(), mends, o); !sameObject(got, want) {
				t.Errorf("%.20q: %.60q", text, got.Values)
			}
		}
	}
}

func TestMendedIsNewMemory(t *testing.T) {
	lists := badMends()
	lists["good"] = mendsOf("berth.zone=b if room is 8", "job.note=<mode", "job.need=8 if note is big")
	lists["none"] = nil
	for why, mends := range lists {
		room := append(slices.Clone(mends), impl.GateMend{Kind: spare})
		was := slices.Clone(room)
		for _, shapes := range [][]impl.GateShape{mendShapes(), notOk()["order"], nil} {
			for _, o := range []impl.GateObject{sampleBerth(), sampleJob(), {Kind: "berth", Values: roomy("", ""), Holds: roomy("h")}, {Kind: "job", Values: roomy("1"), Holds: roomy("z", "a")}, {}} {
				unchanged(t, shapes, []impl.GateObject{o}, func() {
					impl.GateMendsOk(shapes, room[:len(mends)])
					for _, call := range mendCalls() {
						scribble(call(shapes, room[:len(mends)], o))
					}
				})
				for _, call := range mendCalls() {
					got := call(shapes, room[:len(mends)], o)
					holds := slices.Clone(got.Holds)
					scribble(impl.GateObject{Values: got.Values})
					if !slices.Equal(got.Holds, holds) {
						t.Errorf("%s: two lists of the answer share memory", why)
					}
				}
			}
		}
		if !reflect.DeepEqual(room, was) {
			t.Errorf("%s: the mends were changed: %+v", why, room)
		}
	}
	both := roomy("", "a")
	got := impl.GateShaped(mendShapes(), mendsOf("berth.room=9"), impl.GateObject{Kind: "berth", Values: both, Holds: both})
	if !slices.Equal(got.Values, []string{"9", "a"}) || !slices.Equal(got.Holds, []string{"", "a"}) {
		t.Errorf("one list given twice: %+v", got)
	}
}
