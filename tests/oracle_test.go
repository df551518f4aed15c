package tests

import (
	"math/rand"
	"regexp"
	"slices"
	"strconv"
	"testing"

	"loop.example/wharfgate/impl"
)

// The document's words of chapters 1 and 2 a second time, by other means, held against the program on many inputs.

var (
	nameForm    = regexp.MustCompile(`\A[a-z0-9-]{1,16}\z`)
	decimalForm = regexp.MustCompile(`\A(0|[1-9][0-9]{0,6})\z`)
	textForm    = regexp.MustCompile(`\A[!-~]+\z`)
)

func saidFits(f impl.GateField, value string) bool {
	if value == "" {
		return false
	}
	switch f.Kind {
	case 1:
		n, _ := strconv.Atoi(value)
		return decimalForm.MatchString(value) && f.Least <= n && n <= f.Most
	case 2:
		return slices.Index(f.Words, value) >= 0
	case 3:
		return textForm.MatchString(value) && f.Least <= len(value) && len(value) <= f.Most
	case 4:
		return nameForm.MatchString(value)
	}
	return false
}

func saidAscendingNames(list []string) bool {
	sorted := slices.Compact(slices.Sorted(slices.Values(list)))
	return slices.Equal(sorted, list) && !slices.ContainsFunc(list, func(s string) bool { return !nameForm.MatchString(s) })
}

func saidFieldOk(kinds []string, f impl.GateField) bool {
	noRange, noWords, noLink, noWeight := f.Least == 0 && f.Most == 0, len(f.Words) == 0, f.To == "" && f.Role == 0, f.Weighs == ""
	if f.Default != "" && !saidFits(f, f.Default) {
		return false
	}
	switch f.Kind {
	case 1:
		return noWords && noLink && 0 <= f.Least && f.Least <= f.Most && f.Most <= 1000000 && (noWeight || nameForm.MatchString(f.Weighs))
	case 2:
		return noRange && noLink && noWeight && !noWords && len(f.Words) <= 6 && saidAscendingNames(f.Words)
	case 3:
		return noWords && noLink && noWeight && 1 <= f.Least && f.Least <= f.Most && f.Most <= 40
	case 4:
		return noRange && noWords && noWeight && slices.Contains(kinds, f.To) && 1 <= f.Role && f.Role <= 3 && f.Default == "" && !(f.Role == 2 && f.Must)
	}
	return false
}

func saidShapesOk(list []impl.GateShape) bool {
	var kinds []string
	for _, s := range list {
		kinds = append(kinds, s.Kind)
	}
	if len(list) > 6 || !saidAscendingNames(kinds) {
		return false
	}
	for _, s := range list {
		names := map[string]int{}
		for _, f := range s.Fields {
			names[f.Name]++
			if names[f.Name] > 1 || !nameForm.MatchString(f.Name) || !saidFieldOk(kinds, f) {
				return false
			}
		}
		if len(s.Fields) > 6 {
			return false
		}
	}
	return true
}

func saidCheck(shapes []impl.GateShape, o impl.GateObject) (int, int) {
	at := slices.IndexFunc(shapes, func(s impl.GateShape) bool { return s.Kind == o.Kind })
	if !saidShapesOk(shapes) || at < 0 || !nameForm.MatchString(o.Name) || !nameForm.MatchString(o.Team) || len(o.Values) != len(shapes[at].Fields) ||
		len(o.Holds) > 3 || !saidAscendingNames(o.Holds) || o.Version < 0 || o.Version > 1000000 {
		return 1, 0
	}
	for i, f := range shapes[at].Fields {
		if f.Must && o.Values[i] == "" {
			return 2, i
		}
		if o.Values[i] != "" && !saidFits(f, o.Values[i]) {
			return 3, i
		}
	}
	return 0, 0
}

func saidTurned(shapes []impl.GateShape, old, o impl.GateObject) (int, int) {
	a, _ := saidCheck(shapes, old)
	b, _ := saidCheck(shapes, o)
	if a != 0 || b != 0 || old.Kind != o.Kind || old.Name != o.Name || old.Team != o.Team {
		return 1, 0
	}
	at := slices.IndexFunc(shapes, func(s impl.GateShape) bool { return s.Kind == o.Kind })
	for i, f := range shapes[at].Fields {
		if f.Fixed && old.Values[i] != "" && o.Values[i] != old.Values[i] {
			return 4, i
		}
	}
	return 0, 0
}

func saidFill(shapes []impl.GateShape, o impl.GateObject) impl.GateObject {
	at := slices.IndexFunc(shapes, func(s impl.GateShape) bool { return s.Kind == o.Kind })
	o = copyObject(o)
	if saidShapesOk(shapes) && at >= 0 && len(o.Values) == len(shapes[at].Fields) {
		for i, f := range shapes[at].Fields {
			if o.Values[i] == "" {
				o.Values[i] = f.Default
			}
		}
	}
	return o
}

// odds is made once, as some of its texts are long.
var odds = oddTexts()

// chance deals inputs that are mostly ok, and odd here and there.
type chance struct{ *rand.Rand }

func (c chance) oneIn(n int) bool { return c.Intn(n) == 0 }

func (c chance) text(from ...string) string {
	if c.oneIn(60) {
		return odds[c.Intn(len(odds))]
	}
	return from[c.Intn(len(from))]
}

func (c chance) number(n int) int {
	if c.oneIn(80) {
		return []int{-1, 0, 40, 41, 1000000, 1000001}[c.Intn(6)]
	}
	return c.Intn(n)
}

func (c chance) field(name string) impl.GateField {
	f := impl.GateField{Name: c.text(name), Kind: 1 + c.number(4), Must: c.oneIn(3), Fixed: c.oneIn(2)}
	switch f.Kind {
	case 1:
		f.Least = c.number(3)
		f.Most = f.Least + c.number(4)
		f.Weighs = c.text("", "w")
		f.Default = c.text("", strconv.Itoa(f.Least), strconv.Itoa(f.Most))
	case 2:
		f.Words = []string{"1", "a", "b", "c", "d", "e", "f"}[c.Intn(2) : 2+c.Intn(6)]
		f.Default = c.text("", f.Words[0])
	case 3:
		f.Least = 1 + c.number(2)
		f.Most = f.Least + c.number(4)
		f.Default = c.text("", "", "aa", "ab")
	case 4:
		f.To, f.Role = c.text("a", "b"), 1+c.number(3)
		f.Must = f.Must && f.Role != 2
	}
	if c.oneIn(25) {
		c.spoil(&f)
	}
	return f
}

func (c chance) spoil(f *impl.GateField) {
	switch c.Intn(8) {
	case 0:
		f.Least++
	case 1:
		f.Most--
	case 2:
		f.Words = append(slices.Clone(f.Words), c.text("a", "z"))
	case 3:
		f.To = "a"
	case 4:
		f.Role = c.number(5)
	case 5:
		f.Weighs = c.text("w", "W")
	case 6:
		f.Must = true
	case 7:
		f.Default = c.text("1", "a", "zz")
	}
}

func (c chance) shapes() []impl.GateShape {
	var list []impl.GateShape
	for _, kind := range []string{"a", "b", "c"} {
		s := impl.GateShape{Kind: c.text(kind)}
		for i := range c.Intn(5) {
			s.Fields = append(s.Fields, c.field("f"+strconv.Itoa(i)))
		}
		list = append(list, s)
	}
	return list
}

func (c chance) object(shapes []impl.GateShape) impl.GateObject {
	s := shapes[c.Intn(len(shapes))]
	o := impl.GateObject{Kind: c.text(s.Kind), Name: c.text("n"), Team: c.text("t", "t", "t", "u"), Ending: c.oneIn(2), Version: c.number(9)}
	for range s.Fields {
		o.Values = append(o.Values, c.text("", "1", "2", "a", "b", "aa"))
	}
	for i, hold := range []string{"h", "i", "j", "k"} {
		if c.oneIn(3 + i) {
			o.Holds = append(o.Holds, c.text(hold))
		}
	}
	if c.oneIn(40) {
		o.Values = append(o.Values, "")
	}
	return o
}

func TestShapesAndObjectsAsSaid(t *testing.T) {
	t.Parallel()
	c := chance{rand.New(rand.NewSource(1))}
	seen := map[string]int{}
	for range 60000 {
		shapes := c.shapes()
		ok := impl.GateShapesOk(shapes)
		if ok != saidShapesOk(shapes) {
			t.Fatalf("GateShapesOk %v: %+v", ok, shapes)
		}
		seen["shapes "+strconv.FormatBool(ok)]++
		old := c.object(shapes)
		o := c.object(shapes)
		if c.oneIn(2) && len(old.Values) > 0 {
			o = copyObject(old)
			o.Values[c.Intn(len(o.Values))] = c.text("", "1", "a", "aa")
		}
		code, place := impl.GateCheck(shapes, o)
		wantCode, wantPlace := saidCheck(shapes, o)
		if code != wantCode || place != wantPlace {
			t.Fatalf("GateCheck %d %d, not %d %d: %+v of %+v", code, place, wantCode, wantPlace, o, shapes)
		}
		seen["check "+strconv.Itoa(code)]++
		code, place = impl.GateTurned(shapes, old, o)
		wantCode, wantPlace = saidTurned(shapes, old, o)
		if code != wantCode || place != wantPlace {
			t.Fatalf("GateTurned %d %d, not %d %d: %+v to %+v of %+v", code, place, wantCode, wantPlace, old, o, shapes)
		}
		seen["turned "+strconv.Itoa(code)]++
		if got, want := impl.GateFill(shapes, o), saidFill(shapes, o); !sameObject(got, want) {
			t.Fatalf("GateFill %+v, not %+v: %+v", got, want, shapes)
		}
		f, value := c.field("f"), c.text("", "0", "1", "3", "a", "aa", "aaa", "A", "b-")
		if got := impl.GateFits(f, value); got != saidFits(f, value) {
			t.Fatalf("GateFits %v: %q of %+v", got, value, f)
		}
	}
	for _, what := range []string{"shapes true", "shapes false", "check 0", "check 1", "check 2", "check 3", "turned 0", "turned 1", "turned 4"} {
		if seen[what] < 500 {
			t.Errorf("%s came up %d times only", what, seen[what])
		}
	}
}
