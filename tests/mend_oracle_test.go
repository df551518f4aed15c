package tests

import (
	"iter"
	"math/rand"
	"slices"
	"strconv"
	"testing"

	"loop.example/wharfgate/impl"
)

// The document's words of chapter 3 a second time: all rows are tried, one after the other.

// rowsOf goes over every order of the places of a shape's fields in which, of each mend of the shape's kind, When and From stand ahead of Field.
func rowsOf(s impl.GateShape, mends []impl.GateMend) iter.Seq[[]int] {
	return func(yield func([]int) bool) {
		for row := range ordersOf(len(s.Fields)) {
			ahead := func(name, field string) bool {
				at := func(name string) int {
					return slices.IndexFunc(row, func(place int) bool { return s.Fields[place].Name == name })
				}
				return name == "" || at(name) < at(field)
			}
			if !slices.ContainsFunc(mends, func(m impl.GateMend) bool {
				return m.Kind == s.Kind && !(ahead(m.When, m.Field) && ahead(m.From, m.Field))
			}) && !yield(row) {
				return
			}
		}
	}
}

// firstRow is one of the rows, and whether there is one.
func firstRow(s impl.GateShape, mends []impl.GateMend) ([]int, bool) {
	for row := range rowsOf(s, mends) {
		return row, true
	}
	return nil, false
}

func ordersOf(n int) iter.Seq[[]int] {
	return func(yield func([]int) bool) {
		if n == 0 {
			yield(nil)
			return
		}
		for row := range ordersOf(n - 1) {
			for at := range n {
				if !yield(slices.Insert(slices.Clone(row), at, n-1)) {
					return
				}
			}
		}
	}
}

func saidMendOk(shapes []impl.GateShape, m impl.GateMend) bool {
	for _, s := range shapes {
		if s.Kind != m.Kind {
			continue
		}
		plain := map[string]impl.GateField{}
		for _, f := range s.Fields {
			if f.Kind != 4 {
				plain[f.Name] = f
			}
		}
		field, ok := plain[m.Field]
		_, when := plain[m.When]
		_, from := plain[m.From]
		return ok && (when || m.When == "") && (from || m.From == "") && m.When != m.Field && m.From != m.Field &&
			(m.When != "" || m.Is == "") && (m.Put == "" || m.From == "") && m.Put+m.From != "" && (m.Put == "" || saidFits(field, m.Put))
	}
	return false
}

func saidMendsOk(shapes []impl.GateShape, mends []impl.GateMend) bool {
	if !saidShapesOk(shapes) || len(mends) > 12 {
		return false
	}
	for _, m := range mends {
		if !saidMendOk(shapes, m) {
			return false
		}
	}
	return !slices.ContainsFunc(shapes, func(s impl.GateShape) bool {
		_, found := firstRow(s, mends)
		return !found
	})
}

// saidDecided is what a field's deciding mend gives, by these values, and whether there is one.
func saidDecided(s impl.GateShape, mends []impl.GateMend, values []string, place int) (string, bool) {
	now := map[string]string{}
	for i, f := range s.Fields {
		now[f.Name] = values[i]
	}
	for _, m := range mends {
		if m.Kind != s.Kind || m.Field != s.Fields[place].Name {
			continue
		}
		if (m.When == "" || now[m.When] == m.Is) && (m.From == "" || now[m.From] != "") {
			return m.Put + now[m.From], true
		}
	}
	return "", false
}

func saidMended(s impl.GateShape, mends []impl.GateMend, o impl.GateObject, row []int) impl.GateObject {
	o = copyObject(o)
	for _, place := range row {
		if value, decided := saidDecided(s, mends, o.Values, place); decided {
			o.Values[place] = value
		}
	}
	return o
}

// plainShapes is shapes that are ok, of fields that mends may turn, and a link here and there.
func (c chance) plainShapes(most int) []impl.GateShape {
	var list []impl.GateShape
	for _, kind := range []string{"a", "b", "c"} {
		s := impl.GateShape{Kind: kind}
		for i := range c.Intn(most + 1) {
			f := []impl.GateField{
				{Kind: 1, Most: 3, Default: "2"}, {Kind: 1, Most: 3}, {Kind: 2, Words: []string{"1", "2", "a"}, Default: "a"}, {Kind: 2, Words: []string{"1", "2"}},
				{Kind: 3, Least: 1, Most: 2}, {Kind: 3, Least: 1, Most: 1, Default: "b"}, {Kind: 4, To: "a", Role: 1},
			}[c.Intn(7)]
			f.Name = "f" + strconv.Itoa(i)
			s.Fields = append(s.Fields, f)
		}
		list = append(list, s)
	}
	return list
}

// mend is a mend that is mostly ok; round lets it read fields behind its own one, too.
func (c chance) mend(shapes []impl.GateShape, round bool) impl.GateMend {
	s := shapes[c.Intn(len(shapes))]
	m := impl.GateMend{Kind: c.text(s.Kind)}
	var plain []impl.GateField
	for _, f := range s.Fields {
		if f.Kind != 4 || c.oneIn(30) {
			plain = append(plain, f)
		}
	}
	if len(plain) == 0 {
		return m
	}
	at := c.Intn(len(plain))
	m.Field = c.text(plain[at].Name)
	other := func() string {
		if round {
			return c.text("", plain[c.Intn(len(plain))].Name)
		}
		if at == 0 {
			return ""
		}
		return c.text("", plain[c.Intn(at)].Name, plain[c.Intn(at)].Name)
	}
	if m.When = other(); m.When != "" {
		m.Is = c.text("", "1", "2", "a", "b")
	}
	if m.From = other(); m.From == "" {
		m.Put = c.text("1", "1", "2", "a")
	}
	if c.oneIn(60) {
		m.Put, m.From, m.Is = c.text("", "1"), c.text("", plain[0].Name), c.text("", "1")
	}
	return m
}

// mends is a list of them; when all is drawn, the fields of a shape are laid in another order, so that the row is not that of the places.
func (c chance) mends(shapes []impl.GateShape) []impl.GateMend {
	round := c.oneIn(4)
	var list []impl.GateMend
	for range c.Intn(8) {
		m := c.mend(shapes, round)
		if saidMendOk(shapes, m) || c.oneIn(20) {
			list = append(list, m)
		}
	}
	if c.oneIn(50) && len(list) > 0 {
		list = append(list, slices.Repeat(list[:1], 13-c.Intn(2)-len(list))...)
	}
	for _, s := range shapes {
		c.Shuffle(len(s.Fields), func(i, j int) { s.Fields[i], s.Fields[j] = s.Fields[j], s.Fields[i] })
	}
	c.Shuffle(len(list), func(i, j int) { list[i], list[j] = list[j], list[i] })
	return list
}

func TestMendsAsSaid(t *testing.T) {
	t.Parallel()
	c := chance{rand.New(rand.NewSource(3))}
	seen := map[string]int{}
	for n := range 25000 {
		shapes := c.plainShapes(4)
		if n%100 == 0 {
			shapes = c.plainShapes(6)
		}
		if c.oneIn(40) {
			shapes = c.shapes()
		}
		mends := c.mends(shapes)
		ok := saidMendsOk(shapes, mends)
		if got := impl.GateMendsOk(shapes, mends); got != ok {
			t.Fatalf("GateMendsOk %v: %+v of %+v", got, mends, shapes)
		}
		seen["mends "+strconv.FormatBool(ok)]++
		for range 3 {
			o := c.object(shapes)
			at := slices.IndexFunc(shapes, func(s impl.GateShape) bool { return s.Kind == o.Kind })
			whole := ok && at >= 0 && len(o.Values) == len(shapes[at].Fields)
			if whole {
				holdPromiseOne(t, shapes[at], shapes, mends, o, seen)
			}
			holdPromiseTwo(t, shapes, mends, o, whole)
		}
	}
	for _, what := range []string{"mends true", "mends false", "several rows", "one row", "mended", "decided by the last values", "another mend by the first values"} {
		if seen[what] < 500 {
			t.Errorf("%s came up %d times only", what, seen[what])
		}
	}
}

// holdPromiseOne tries every row of the fields, and holds the last values against the mends that they decide by.
func holdPromiseOne(t *testing.T, s impl.GateShape, shapes []impl.GateShape, mends []impl.GateMend, o impl.GateObject, seen map[string]int) {
	t.Helper()
	got := impl.GateMended(shapes, mends, o)
	rows := slices.Collect(rowsOf(s, mends))
	for _, row := range rows {
		if want := saidMended(s, mends, o, row); !sameObject(got, want) {
			t.Fatalf("GateMended %q, not %q by the row %v: %+v by %+v of %+v", got.Values, want.Values, row, o, mends, shapes)
		}
	}
	for place := range s.Fields {
		first, firstDecided := saidDecided(s, mends, o.Values, place)
		value, decided := saidDecided(s, mends, got.Values, place)
		if decided && got.Values[place] != value || !decided && got.Values[place] != o.Values[place] {
			t.Fatalf("field %d: %q of %q: %+v by %+v of %+v", place, value, got.Values, o, mends, shapes)
		}
		if decided {
			seen["decided by the last values"]++
		}
		if decided != firstDecided || value != first {
			seen["another mend by the first values"]++
		}
	}
	if len(rows) > 1 {
		seen["several rows"]++
	} else {
		seen["one row"]++
	}
	if !sameObject(got, o) {
		seen["mended"]++
	}
}

// holdPromiseTwo asks what GateShaped leaves to stay as it is; an object that is not mended is left alone.
func holdPromiseTwo(t *testing.T, shapes []impl.GateShape, mends []impl.GateMend, o impl.GateObject, whole bool) {
	t.Helper()
	shaped := impl.GateShaped(shapes, mends, o)
	if !whole {
		if !sameObject(shaped, o) || !sameObject(impl.GateMended(shapes, mends, o), o) {
			t.Fatalf("not as it is: %+v by %+v of %+v", o, mends, shapes)
		}
		return
	}
	if want := impl.GateMended(shapes, mends, saidFill(shapes, o)); !sameObject(shaped, want) {
		t.Fatalf("GateShaped %q, not %q: %+v by %+v of %+v", shaped.Values, want.Values, o, mends, shapes)
	}
	for _, again := range []impl.GateObject{impl.GateFill(shapes, shaped), impl.GateMended(shapes, mends, shaped), impl.GateShaped(shapes, mends, shaped)} {
		if !sameObject(again, shaped) {
			t.Fatalf("what GateShaped left, %q, became %q: %+v by %+v of %+v", shaped.Values, again.Values, o, mends, shapes)
		}
	}
}
