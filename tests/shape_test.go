package tests

import (
	"math"
	"strconv"
	"strings"
	"testing"

	"loop.example/wharfgate/impl"
)

func TestFitsByKind(t *testing.T) {
	number := impl.GateField{Kind: impl.GateNumber, Least: 3, Most: 120}
	zero := impl.GateField{Kind: impl.GateNumber}
	wide := impl.GateField{Kind: impl.GateNumber, Least: math.MinInt, Most: math.MaxInt}
	word := impl.GateField{Kind: impl.GateWord, Words: []string{"", "a", "no name!"}}
	text := impl.GateField{Kind: impl.GateText, Least: 2, Most: 4}
	any := impl.GateField{Kind: impl.GateText, Least: math.MinInt, Most: math.MaxInt}
	link := impl.GateField{Kind: impl.GateLink}
	for i, c := range []struct {
		f     impl.GateField
		value string
		fits  bool
	}{
		{number, "3", true}, {number, "120", true}, {number, "2", false}, {number, "121", false}, {number, "50", true},
		{number, "", false}, {number, "05", false}, {number, "-5", false}, {number, "+5", false}, {number, " 5", false}, {number, "5 ", false}, {number, "5a", false}, {number, "0x5", false}, {number, "5.0", false}, {number, "٣", false}, {number, "/", false}, {number, ":", false},
		{zero, "0", true}, {zero, "1", false}, {zero, "00", false}, {zero, "", false}, {zero, "-0", false},
		{wide, "0", true}, {wide, "1000000", true}, {wide, "9999999", true}, {wide, "10000000", false}, {wide, "00000001", false}, {wide, "0000001", false}, {wide, strings.Repeat("9", 40), false}, {wide, "-1", false},
		{impl.GateField{Kind: impl.GateNumber, Least: 5, Most: 4}, "5", false}, {impl.GateField{Kind: impl.GateNumber, Least: 5, Most: 4}, "4", false},
		{word, "a", true}, {word, "no name!", true}, {word, "", false}, {word, "b", false}, {word, "A", false}, {word, "aa", false},
		{impl.GateField{Kind: impl.GateWord}, "", false}, {impl.GateField{Kind: impl.GateWord}, "a", false},
		{text, "a", false}, {text, "ab", true}, {text, "abcd", true}, {text, "abcde", false}, {text, "", false},
		{text, "!~", true}, {text, "a ", false}, {text, "a\x7f", false}, {text, "a\x00", false}, {text, "é", false}, {text, "a\xff", false}, {text, "\"\\", true}, {text, "AZ09", true},
		{any, "", false}, {any, "a", true}, {any, strings.Repeat("~", 41), true}, {any, " ", false},
		{link, "a", true}, {link, "b-1", true}, {link, "-", true}, {link, "0", true}, {link, "z9", true}, {link, strings.Repeat("z", 16), true}, {link, strings.Repeat("z", 17), false}, {link, "", false}, {link, "B", false}, {link, "a_b", false}, {link, "a b", false}, {link, "é", false}, {link, "`", false}, {link, "{", false}, {link, "a\xff", false},
	} {
		if got := impl.GateFits(c.f, c.value); got != c.fits {
			t.Errorf("case %d: Kind %d, value %.20q: %v", i, c.f.Kind, c.value, got)
		}
	}
}

func TestFitsOtherKinds(t *testing.T) {
	for _, kind := range []int{0, 5, -1, -4, math.MinInt, math.MaxInt, 1 << 32, 1<<32 + 1, 257} {
		f := impl.GateField{Kind: kind, Least: 0, Most: 1000000, Words: []string{"a", "1", ""}, To: "a", Role: 1}
		for _, value := range append(oddTexts(), "a", "1") {
			if impl.GateFits(f, value) {
				t.Errorf("Kind %d: %.20q fits", kind, value)
			}
		}
	}
}

// What a row does not use, and what else is in the field, does not count for a value.
func TestFitsLooksAtItsRowAlone(t *testing.T) {
	for kind, c := range map[int][2]string{impl.GateNumber: {"4", "11"}, impl.GateWord: {"w", "v"}, impl.GateText: {"T!", "T"}, impl.GateLink: {"-l-", "L"}} {
		f := impl.GateField{Name: "No Name", Kind: kind, Least: 2, Most: 10, Words: []string{"w"}, To: "No Kind", Role: 77, Must: true, Fixed: true, Default: "Q Q", Weighs: "No Name"}
		if !impl.GateFits(f, c[0]) || impl.GateFits(f, c[1]) || impl.GateFits(f, "") {
			t.Errorf("Kind %d", kind)
		}
	}
	for _, value := range []string{"a", "zz", strings.Repeat("a", 16)} {
		if !impl.GateFits(impl.GateField{Kind: impl.GateLink, Least: 5, Most: 1, Words: []string{"q"}, To: "x"}, value) {
			t.Errorf("link %q", value)
		}
	}
}

// oneField is a list of shapes with a field to look at, and a kind for a link to name.
func oneField(f impl.GateField) []impl.GateShape {
	return []impl.GateShape{{Kind: "a"}, {Kind: "m", Fields: []impl.GateField{{Name: "first", Kind: impl.GateNumber}, f}}, {Kind: "z"}}
}

type fieldCase struct {
	why string
	f   impl.GateField
	ok  bool
}

func checkFieldCases(t *testing.T, list []fieldCase) {
	t.Helper()
	for _, c := range list {
		if c.f.Name == "" {
			c.f.Name = "f"
		}
		if got := impl.GateShapesOk(oneField(c.f)); got != c.ok {
			t.Errorf("%s: %v", c.why, got)
		}
	}
}

func TestShapesOkNumbers(t *testing.T) {
	const n = impl.GateNumber
	checkFieldCases(t, []fieldCase{
		{"all nothing", impl.GateField{Kind: n}, true},
		{"limits met", impl.GateField{Kind: n, Least: 0, Most: 1000000}, true},
		{"least is most, both the greatest", impl.GateField{Kind: n, Least: 1000000, Most: 1000000}, true},
		{"least below 0", impl.GateField{Kind: n, Least: -1, Most: 5}, false},
		{"most above the limit", impl.GateField{Kind: n, Least: 0, Most: 1000001}, false},
		{"least above most", impl.GateField{Kind: n, Least: 6, Most: 5}, false},
		{"far away", impl.GateField{Kind: n, Least: math.MinInt, Most: math.MaxInt}, false},
		{"weighs a name", impl.GateField{Kind: n, Weighs: strings.Repeat("w", 16)}, true},
		{"weighs too long a name", impl.GateField{Kind: n, Weighs: strings.Repeat("w", 17)}, false},
		{"weighs no name", impl.GateField{Kind: n, Weighs: "W"}, false},
		{"must and fixed", impl.GateField{Kind: n, Must: true, Fixed: true}, true},
		{"default at least", impl.GateField{Kind: n, Least: 3, Most: 5, Default: "3"}, true},
		{"default at most", impl.GateField{Kind: n, Least: 3, Most: 5, Default: "5"}, true},
		{"default below", impl.GateField{Kind: n, Least: 3, Most: 5, Default: "2"}, false},
		{"default above", impl.GateField{Kind: n, Least: 3, Most: 5, Default: "6"}, false},
		{"default no decimal", impl.GateField{Kind: n, Least: 3, Most: 5, Default: "04"}, false},
		{"default and must", impl.GateField{Kind: n, Least: 3, Most: 5, Default: "4", Must: true}, true},
		{"words", impl.GateField{Kind: n, Words: []string{"a"}}, false},
		{"an empty word", impl.GateField{Kind: n, Words: []string{""}}, false},
		{"empty list of words", impl.GateField{Kind: n, Words: []string{}}, true},
		{"to", impl.GateField{Kind: n, To: "a"}, false},
		{"role", impl.GateField{Kind: n, Role: impl.GateHolds}, false},
		{"odd role", impl.GateField{Kind: n, Role: -1}, false},
	})
}

func TestShapesOkWords(t *testing.T) {
	const w = impl.GateWord
	one := []string{"a"}
	checkFieldCases(t, []fieldCase{
		{"one word", impl.GateField{Kind: w, Words: one}, true},
		{"limit met", impl.GateField{Kind: w, Words: []string{"a", "b", "c", "d", "e", "f"}}, true},
		{"one more", impl.GateField{Kind: w, Words: []string{"a", "b", "c", "d", "e", "f", "g"}}, false},
		{"no word", impl.GateField{Kind: w}, false},
		{"no word, an empty list", impl.GateField{Kind: w, Words: []string{}}, false},
		{"the empty word", impl.GateField{Kind: w, Words: []string{""}}, false},
		{"a word that is no name", impl.GateField{Kind: w, Words: []string{"a", "b!"}}, false},
		{"too long a word", impl.GateField{Kind: w, Words: []string{strings.Repeat("a", 17)}}, false},
		{"twice", impl.GateField{Kind: w, Words: []string{"a", "a"}}, false},
		{"descending", impl.GateField{Kind: w, Words: []string{"b", "a"}}, false},
		{"descending at the end", impl.GateField{Kind: w, Words: []string{"a", "c", "b"}}, false},
		{"the shorter first", impl.GateField{Kind: w, Words: []string{"a", "a-", "a0", "aa"}}, true},
		{"the longer first", impl.GateField{Kind: w, Words: []string{"aa", "a"}}, false},
		{"by bytes, not by numbers", impl.GateField{Kind: w, Words: []string{"-", "10", "9", "a"}}, true},
		{"default", impl.GateField{Kind: w, Words: one, Default: "a"}, true},
		{"default that is none", impl.GateField{Kind: w, Words: one, Default: "b"}, false},
		{"must and fixed", impl.GateField{Kind: w, Words: one, Must: true, Fixed: true}, true},
		{"least", impl.GateField{Kind: w, Words: one, Least: 1}, false},
		{"least below 0", impl.GateField{Kind: w, Words: one, Least: -1}, false},
		{"most", impl.GateField{Kind: w, Words: one, Most: 1}, false},
		{"to", impl.GateField{Kind: w, Words: one, To: "a"}, false},
		{"role", impl.GateField{Kind: w, Words: one, Role: impl.GateLeans}, false},
		{"weighs", impl.GateField{Kind: w, Words: one, Weighs: "a"}, false},
	})
}

func TestShapesOkTexts(t *testing.T) {
	const x = impl.GateText
	checkFieldCases(t, []fieldCase{
		{"limits met", impl.GateField{Kind: x, Least: 1, Most: 40}, true},
		{"both the greatest", impl.GateField{Kind: x, Least: 40, Most: 40}, true},
		{"all nothing", impl.GateField{Kind: x}, false},
		{"least 0", impl.GateField{Kind: x, Least: 0, Most: 4}, false},
		{"least below 0", impl.GateField{Kind: x, Least: -1, Most: 4}, false},
		{"most above the limit", impl.GateField{Kind: x, Least: 1, Most: 41}, false},
		{"least above most", impl.GateField{Kind: x, Least: 5, Most: 4}, false},
		{"default at least", impl.GateField{Kind: x, Least: 2, Most: 4, Default: "a!"}, true},
		{"default at most", impl.GateField{Kind: x, Least: 2, Most: 4, Default: "ABCD"}, true},
		{"default too short", impl.GateField{Kind: x, Least: 2, Most: 4, Default: "a"}, false},
		{"default too long", impl.GateField{Kind: x, Least: 2, Most: 4, Default: "abcde"}, false},
		{"default of other bytes", impl.GateField{Kind: x, Least: 2, Most: 4, Default: "a b"}, false},
		{"must and fixed", impl.GateField{Kind: x, Least: 1, Most: 2, Must: true, Fixed: true}, true},
		{"words", impl.GateField{Kind: x, Least: 1, Most: 2, Words: []string{"a"}}, false},
		{"to", impl.GateField{Kind: x, Least: 1, Most: 2, To: "a"}, false},
		{"role", impl.GateField{Kind: x, Least: 1, Most: 2, Role: impl.GateOwned}, false},
		{"weighs", impl.GateField{Kind: x, Least: 1, Most: 2, Weighs: "a"}, false},
	})
}

func TestShapesOkLinks(t *testing.T) {
	const k = impl.GateLink
	checkFieldCases(t, []fieldCase{
		{"holds", impl.GateField{Kind: k, To: "a", Role: impl.GateHolds}, true},
		{"leans", impl.GateField{Kind: k, To: "a", Role: impl.GateLeans}, true},
		{"owned", impl.GateField{Kind: k, To: "a", Role: impl.GateOwned}, true},
		{"to a later one", impl.GateField{Kind: k, To: "z", Role: impl.GateHolds}, true},
		{"to its own", impl.GateField{Kind: k, To: "m", Role: impl.GateOwned}, true},
		{"to none of the list", impl.GateField{Kind: k, To: "b", Role: impl.GateHolds}, false},
		{"to nothing", impl.GateField{Kind: k, Role: impl.GateHolds}, false},
		{"no role", impl.GateField{Kind: k, To: "a"}, false},
		{"one role too many", impl.GateField{Kind: k, To: "a", Role: 4}, false},
		{"role below 0", impl.GateField{Kind: k, To: "a", Role: -1}, false},
		{"must hold", impl.GateField{Kind: k, To: "a", Role: impl.GateHolds, Must: true, Fixed: true}, true},
		{"must be owned", impl.GateField{Kind: k, To: "a", Role: impl.GateOwned, Must: true, Fixed: true}, true},
		{"must lean", impl.GateField{Kind: k, To: "a", Role: impl.GateLeans, Must: true}, false},
		{"leans and is fixed", impl.GateField{Kind: k, To: "a", Role: impl.GateLeans, Fixed: true}, true},
		{"a default that is a name", impl.GateField{Kind: k, To: "a", Role: impl.GateHolds, Default: "b"}, false},
		{"a default that is none", impl.GateField{Kind: k, To: "a", Role: impl.GateHolds, Default: "B"}, false},
		{"least", impl.GateField{Kind: k, To: "a", Role: impl.GateHolds, Least: 1}, false},
		{"most", impl.GateField{Kind: k, To: "a", Role: impl.GateHolds, Most: 16}, false},
		{"words", impl.GateField{Kind: k, To: "a", Role: impl.GateHolds, Words: []string{"a"}}, false},
		{"weighs", impl.GateField{Kind: k, To: "a", Role: impl.GateHolds, Weighs: "a"}, false},
	})
}

func TestShapesOkOtherKinds(t *testing.T) {
	for _, kind := range []int{0, 5, -1, math.MinInt, math.MaxInt} {
		checkFieldCases(t, []fieldCase{
			{"bare", impl.GateField{Kind: kind}, false},
			{"like a number", impl.GateField{Kind: kind, Least: 1, Most: 2}, false},
			{"like a word", impl.GateField{Kind: kind, Words: []string{"a"}}, false},
			{"like a link", impl.GateField{Kind: kind, To: "a", Role: 1}, false},
		})
	}
}

func TestShapesOkFieldNames(t *testing.T) {
	for name, ok := range map[string]bool{"g": true, "-": true, "0": true, strings.Repeat("n", 16): true, strings.Repeat("n", 17): false, "F": false, "f f": false, "é": false, "\x00": false, "first": false} {
		if impl.GateShapesOk(oneField(impl.GateField{Name: name, Kind: impl.GateNumber})) != ok {
			t.Errorf("%q", name)
		}
	}
	if impl.GateShapesOk([]impl.GateShape{{Kind: "a", Fields: []impl.GateField{{Kind: impl.GateNumber}}}}) {
		t.Error("a field without a name")
	}
	two := []impl.GateShape{{Kind: "a", Fields: []impl.GateField{{Name: "f", Kind: impl.GateNumber}}}, {Kind: "b", Fields: []impl.GateField{{Name: "f", Kind: impl.GateNumber}}}}
	if !impl.GateShapesOk(two) {
		t.Error("one name in two shapes")
	}
	far := []impl.GateField{{Name: "f", Kind: 1}, {Name: "g", Kind: 1}, {Name: "h", Kind: 1}, {Name: "f", Kind: 3, Least: 1, Most: 1}}
	if impl.GateShapesOk([]impl.GateShape{{Kind: "a", Fields: far}}) {
		t.Error("one name twice, with others between")
	}
}

func numbered(n int) (list []impl.GateShape, fields []impl.GateField) {
	for i := range n {
		list = append(list, impl.GateShape{Kind: "k" + strconv.Itoa(i)})
		fields = append(fields, impl.GateField{Name: "f" + strconv.Itoa(i), Kind: impl.GateNumber})
	}
	return list, fields
}

func TestShapesOkLists(t *testing.T) {
	six, sixFields := numbered(6)
	seven, sevenFields := numbered(7)
	for why, c := range map[string]struct {
		list []impl.GateShape
		ok   bool
	}{
		"nil":                   {nil, true},
		"empty":                 {[]impl.GateShape{}, true},
		"the sample":            {sampleShapes(), true},
		"six shapes":            {six, true},
		"seven shapes":          {seven, false},
		"six fields":            {[]impl.GateShape{{Kind: "a", Fields: sixFields}}, true},
		"seven fields":          {[]impl.GateShape{{Kind: "a", Fields: sevenFields}}, false},
		"seven fields, later":   {[]impl.GateShape{{Kind: "a"}, {Kind: "b", Fields: sevenFields}}, false},
		"no kind":               {[]impl.GateShape{{}}, false},
		"kind no name":          {[]impl.GateShape{{Kind: "A"}}, false},
		"kind of 16 bytes":      {[]impl.GateShape{{Kind: strings.Repeat("a", 16)}}, true},
		"kind of 17 bytes":      {[]impl.GateShape{{Kind: strings.Repeat("a", 17)}}, false},
		"one kind twice":        {[]impl.GateShape{{Kind: "a"}, {Kind: "a"}}, false},
		"descending":            {[]impl.GateShape{{Kind: "b"}, {Kind: "a"}}, false},
		"descending at the end": {[]impl.GateShape{{Kind: "a"}, {Kind: "c"}, {Kind: "b"}}, false},
		"the shorter first":     {[]impl.GateShape{{Kind: "a"}, {Kind: "aa"}}, true},
		"the longer first":      {[]impl.GateShape{{Kind: "aa"}, {Kind: "a"}}, false},
	} {
		if got := impl.GateShapesOk(c.list); got != c.ok {
			t.Errorf("%s: %v", why, got)
		}
	}
	for why, list := range notOk() {
		if impl.GateShapesOk(list) {
			t.Errorf("spoilt %s", why)
		}
	}
}

func TestShapesOkAnyBytes(t *testing.T) {
	for _, text := range oddTexts() {
		f := impl.GateField{Name: text, Kind: impl.GateWord, Words: []string{text, text}, To: text, Default: text, Weighs: text}
		if impl.GateShapesOk([]impl.GateShape{{Kind: text, Fields: []impl.GateField{f}}}) {
			t.Errorf("%.20q", text)
		}
	}
}

func TestShapesAreNotChanged(t *testing.T) {
	shapes := sampleShapes()
	unchanged(t, shapes, nil, func() {
		impl.GateShapesOk(shapes)
		for _, s := range shapes {
			for _, f := range s.Fields {
				for _, value := range oddTexts() {
					impl.GateFits(f, value)
				}
			}
		}
	})
}
