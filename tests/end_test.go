package tests

import (
	"fmt"
	"slices"
	"strconv"
	"strings"
	"testing"

	"loop.example/wharfgate/impl"
)

// endLaw has two kinds that hold, lean on and own each other in every way; what leans may be Fixed.
func endLaw() impl.GateLaw {
	link := func(name, to string, role int) impl.GateField {
		return impl.GateField{Name: name, Kind: impl.GateLink, To: to, Role: role}
	}
	l := impl.GateLaw{
		Shapes: []impl.GateShape{
			{Kind: "box", Fields: []impl.GateField{
				{Name: "size", Kind: impl.GateNumber, Most: 100, Weighs: "box"},
				link("holds", "thing", impl.GateHolds), link("xholds", "box", impl.GateHolds),
				link("leans", "thing", impl.GateLeans), link("xleans", "box", impl.GateLeans),
				link("owner", "thing", impl.GateOwned),
			}},
			{Kind: "thing", Fields: []impl.GateField{
				{Name: "size", Kind: impl.GateNumber, Most: 100, Default: "1", Weighs: "w"},
				link("holds", "thing", impl.GateHolds),
				link("leans", "thing", impl.GateLeans), link("leans2", "thing", impl.GateLeans),
				link("owner", "thing", impl.GateOwned), link("xowner", "box", impl.GateOwned),
			}},
		},
		Teams: teamsOf("dev lab<dev ops pit<lab sea<pit sub<sea"),
	}
	l.Shapes[1].Fields[2].Fixed = true
	return l
}

// endBook reads a book of endLaw whose Now is 20: objects with commas between, each a name ("x.name" is a box) with "!" if it is Ending,
// and behind it FIELD=VALUE, +HOLD, @TEAM (without: dev) and :VERSION (without: 1).
func endBook(text string) impl.GateBook {
	b := impl.GateBook{Now: 20, Tick: 3}
	for part := range strings.SplitSeq(text, ",") {
		if words := strings.Fields(part); len(words) > 0 {
			b.Objects = append(b.Objects, endObject(words))
		}
	}
	return b
}

func endObject(words []string) impl.GateObject {
	o := impl.GateObject{Kind: "thing", Team: "dev", Version: 1, Values: []string{"1", "", "", "", "", ""}}
	name, ending := strings.CutSuffix(words[0], "!")
	o.Name, o.Ending = name, ending
	if name, box := strings.CutPrefix(name, "x."); box {
		o.Kind, o.Name, o.Values[0] = "box", name, ""
	}
	for _, word := range words[1:] {
		switch {
		case word[0] == '+':
			o.Holds = append(o.Holds, word[1:])
		case word[0] == '@':
			o.Team = word[1:]
		case word[0] == ':':
			o.Version, _ = strconv.Atoi(word[1:])
		default:
			field, value, _ := strings.Cut(word, "=")
			o.Values[slices.Index(endFields(o.Kind), field)] = value
		}
	}
	return o
}

func endFields(kind string) []string {
	var out []string
	for _, s := range endLaw().Shapes {
		for _, f := range s.Fields {
			if s.Kind == kind {
				out = append(out, f.Name)
			}
		}
	}
	return out
}

// endText is Now and the objects of a book as endBook reads them.
func endText(b impl.GateBook) string {
	var parts []string
	for _, o := range b.Objects {
		parts = append(parts, endObjectText(o))
	}
	return strings.TrimSpace(fmt.Sprintf("%d | %s", b.Now, strings.Join(parts, ", ")))
}

func endObjectText(o impl.GateObject) string {
	text, size := o.Name, "1"
	if o.Kind == "box" {
		text, size = "x."+text, ""
	}
	if o.Ending {
		text += "!"
	}
	if o.Version != 1 {
		text += " :" + strconv.Itoa(o.Version)
	}
	if o.Team != "dev" {
		text += " @" + o.Team
	}
	for i, field := range endFields(o.Kind) {
		if value := o.Values[i]; i == 0 && value != size || i > 0 && value != "" {
			text += " " + field + "=" + value
		}
	}
	for _, hold := range o.Holds {
		text += " +" + hold
	}
	return text
}

// namedAt is the objects at some places, by name.
func namedAt(b impl.GateBook, places []int) string {
	var out []string
	for i, place := range places {
		o := b.Objects[place]
		if i > 0 && places[i-1] >= place {
			out = append(out, "(not ascending)")
		}
		if o.Kind == "box" {
			out = append(out, "x."+o.Name)
		} else {
			out = append(out, o.Name)
		}
	}
	return strings.Join(out, " ")
}

// endCase is a book, what the three that tell places answer of it, and the book behind a sweep, which is as it was where the code is not 0.
type endCase struct {
	book, mark, going, doomed string
	code                      int
	behind                    string
}

func tryEnds(t *testing.T, cases []endCase) {
	t.Helper()
	l := endLaw()
	for _, c := range cases {
		b := endBook(c.book)
		if !impl.GateBookOk(l, b) {
			t.Fatalf("%s: not ok: %s", c.book, saidFault(l, b))
		}
		if got := namedAt(b, impl.GateMark(l, b)); got != c.mark {
			t.Errorf("%s: GateMark %q, not %q", c.book, got, c.mark)
		}
		if got := namedAt(b, impl.GateGoing(l, b)); got != c.going {
			t.Errorf("%s: GateGoing %q, not %q", c.book, got, c.going)
		}
		if got := namedAt(b, impl.GateDoomed(l, b)); got != c.doomed {
			t.Errorf("%s: GateDoomed %q, not %q", c.book, got, c.doomed)
		}
		got, code := impl.GateSweep(l, b)
		want := c.behind
		if c.code != 0 {
			want = endText(b)
		}
		if code != c.code || endText(got) != want {
			t.Errorf("%s: GateSweep %d, %s\nnot %d, %s", c.book, code, endText(got), c.code, want)
		}
		if !impl.GateBookOk(l, got) {
			t.Errorf("%s: not ok behind a sweep: %s", c.book, saidFault(l, got))
		}
		if code != 0 && !same(got, b) {
			t.Errorf("%s: with the code %d the book is %s", c.book, code, bookText(got))
		}
	}
}

func TestEndsOwned(t *testing.T) {
	tryEnds(t, []endCase{
		{"", "", "", "", 2, ""},
		{"a", "", "", "", 2, ""},
		{"x.m holds=a xleans=m owner=b, a owner=b, b holds=a, c leans=a leans2=b +h", "", "", "", 2, ""},
		{"a!", "", "a", "a", 0, "20 |"},
		{"a!, b", "", "a", "a", 0, "20 | b"},
		{"a, b!, c", "", "b", "b", 0, "20 | a, c"},
		// It owns one that is not Ending, one that is already, and both.
		{"a!, b owner=a", "b", "", "a b", 0, "21 |"},
		{"a!, b! owner=a", "", "a b", "a b", 0, "20 |"},
		{"a!, b owner=a, c! owner=a", "b", "c", "a b c", 0, "21 |"},
		{"a owner=b, b!", "a", "", "a b", 0, "21 |"},
		{"x.m owner=a, a!", "x.m", "", "x.m a", 0, "21 |"},
		{"x.m!, a xowner=m", "a", "", "x.m a", 0, "21 |"},
		// What is owned goes without its owner; what holds what is Ending, or leans on it, is not marked.
		{"a, b! owner=a", "", "b", "b", 0, "20 | a"},
		{"a!, b holds=a", "", "", "", 2, ""},
		{"a!, b leans=a", "", "a", "a", 0, "21 | b :21"},
		{"a! owner=b, b", "", "a", "a", 0, "20 | b"},
		{"a! holds=b, b", "", "a", "a", 0, "20 | b"},
		// A row of several, each owned by the one before: each sweep marks one more.
		{"a!, b owner=a, c owner=b, d owner=c", "b", "", "a b c d", 0, "21 | a!, b! :21 owner=a, c owner=b, d owner=c"},
		{"a!, b! owner=a, c owner=b, d owner=c", "c", "", "a b c d", 0, "21 | a!, b! owner=a, c! :21 owner=b, d owner=c"},
		{"a!, b! owner=a, c! owner=b, d owner=c", "d", "", "a b c d", 0, "21 |"},
		{"a owner=b, b owner=c, c owner=d, d!", "c", "", "a b c d", 0, "21 | a owner=b, b owner=c, c! :21 owner=d, d!"},
		{"a!, b owner=a, c! owner=b", "b", "c", "a b c", 0, "21 |"},
		// What stays of the row keeps what is ahead of it, not what is behind it.
		{"a!, b owner=a, c owner=b +h", "b", "", "", 0, "21 | a!, b! :21 owner=a, c owner=b +h"},
		{"a!, b owner=a +h, c owner=b", "b", "", "c", 0, "21 | a!, b! :21 owner=a +h, c owner=b"},
		{"a! +h, b owner=a, c owner=b", "b", "", "b c", 0, "21 | a! +h, b! :21 owner=a, c owner=b"},
		{"a! +h, b! owner=a, c owner=b", "c", "", "b c", 0, "21 | a! +h"},
		{"a! +h, b! owner=a, c! owner=b", "", "b c", "b c", 0, "20 | a! +h"},
		// Owned by two, of which one is Ending.
		{"x.m, a!, b owner=a xowner=m", "b", "", "a b", 0, "21 | x.m"},
		{"x.m!, a, b owner=a xowner=m", "b", "", "x.m b", 0, "21 | a"},
		{"x.m!, a!, b owner=a xowner=m", "b", "", "x.m a b", 0, "21 |"},
		{"x.m!, a!, b owner=a xowner=m +h", "b", "", "", 0, "21 | x.m!, a!, b! :21 owner=a xowner=m +h"},
		{"x.m, a! +h, b owner=a xowner=m", "b", "", "b", 0, "21 | x.m, a! +h"},
		{"x.m, a, b owner=a xowner=m", "", "", "", 2, ""},
		// Several are marked, in order.
		{"x.m owner=a +h, a!, b owner=a +h, c! owner=a, d owner=a", "x.m b d", "c", "c d", 0, "23 | x.m! :21 owner=a +h, a!, b! :22 owner=a +h"},
		{"x.m owner=c, a owner=b, b!, c!", "x.m a", "", "x.m a b c", 0, "22 |"},
	})
}

func TestEndsHeld(t *testing.T) {
	tryEnds(t, []endCase{
		// Holds keep.
		{"a! +h", "", "", "", 2, ""},
		{"a! +h +k +l", "", "", "", 2, ""},
		{"a +h", "", "", "", 2, ""},
		{"a! +h, b!", "", "b", "b", 0, "20 | a! +h"},
		// Held by one that is not Ending, by one that is, and by one that stays for its Holds.
		{"a!, b holds=a", "", "", "", 2, ""},
		{"a!, b! holds=a", "", "a b", "a b", 0, "20 |"},
		{"a!, b! holds=a +h", "", "", "", 2, ""},
		{"a! +h, b! holds=a", "", "b", "b", 0, "20 | a! +h"},
		{"x.m! holds=a, a!", "", "x.m a", "x.m a", 0, "20 |"},
		{"x.m holds=a, a!", "", "", "", 2, ""},
		{"x.m!, x.n xholds=m", "", "", "", 2, ""},
		{"x.m!, x.n! xholds=m", "", "x.m x.n", "x.m x.n", 0, "20 |"},
		// Of two that hold it one stays.
		{"a!, b! holds=a, c holds=a", "", "b", "b", 0, "20 | a!, c holds=a"},
		{"a!, b! holds=a, c! holds=a", "", "a b c", "a b c", 0, "20 |"},
		{"x.m! holds=a xholds=n, x.n!, a!", "", "x.m x.n a", "x.m x.n a", 0, "20 |"},
		{"x.m! holds=a xholds=n +h, x.n!, a!", "", "", "", 2, ""},
		// Far off.
		{"a!, b! holds=a, c! holds=b, d holds=c", "", "", "", 2, ""},
		{"a!, b! holds=a, c! holds=b, d! holds=c +h", "", "", "", 2, ""},
		{"a!, b! holds=a, c! holds=b, d! holds=c", "", "a b c d", "a b c d", 0, "20 |"},
		{"a!, b! holds=a +h, c! holds=b, d! holds=c", "", "c d", "c d", 0, "20 | a!, b! holds=a +h"},
		{"a holds=b, b! holds=c, c! holds=d, d!", "", "", "", 2, ""},
		// Held by what its owner takes along, in this sweep and in a later one.
		{"a!, b holds=a owner=a", "b", "", "a b", 0, "21 |"},
		{"a!, b!, c holds=a owner=b", "c", "", "a b c", 0, "21 |"},
		{"a!, b!, c owner=b, d holds=a owner=c", "c", "", "a b c d", 0, "21 | a!, b!, c! :21 owner=b, d holds=a owner=c"},
		{"a!, b!, c owner=b +h, d holds=a owner=c", "c", "", "a d", 0, "21 | a!, b!, c! :21 owner=b +h, d holds=a owner=c"},
		// Ending, and yet it stays: an owner of what is held by one that stays.
		{"a!, b owner=a, c holds=b", "b", "", "", 0, "21 | a!, b! :21 owner=a, c holds=b"},
		{"a!, b! owner=a, c holds=b", "", "", "", 2, ""},
		{"a!, b! owner=a, c! holds=b +h, d!", "", "d", "d", 0, "20 | a!, b! owner=a, c! holds=b +h"},
	})
}

func TestEndsInCircles(t *testing.T) {
	tryEnds(t, []endCase{
		// Of two.
		{"a! holds=b, b! holds=a", "", "a b", "a b", 0, "20 |"},
		{"a! holds=b, b holds=a", "", "", "", 2, ""},
		{"a! holds=b, b! holds=a +h", "", "", "", 2, ""},
		{"a! owner=b, b! owner=a", "", "a b", "a b", 0, "20 |"},
		{"a! owner=b, b owner=a", "b", "", "a b", 0, "21 |"},
		{"a! owner=b +h, b owner=a", "b", "", "", 0, "21 | a! owner=b +h, b! :21 owner=a"},
		{"a! owner=b +h, b! owner=a", "", "", "", 2, ""},
		{"a owner=b, b owner=a", "", "", "", 2, ""},
		{"a! holds=b, b! owner=a", "", "a b", "a b", 0, "20 |"},
		{"a! holds=b, b owner=a", "b", "", "a b", 0, "21 |"},
		{"x.m! owner=a, a! xowner=m", "", "x.m a", "x.m a", 0, "20 |"},
		{"x.m! holds=a, a! xowner=m", "", "x.m a", "x.m a", 0, "20 |"},
		// Of more.
		{"a! holds=b, b! holds=c, c! holds=a", "", "a b c", "a b c", 0, "20 |"},
		{"a! holds=b, b! holds=c, c! holds=a +h", "", "", "", 2, ""},
		{"a! holds=b, b! holds=c, c holds=a", "", "", "", 2, ""},
		{"a! holds=b, b! owner=c, c! holds=a", "", "a b c", "a b c", 0, "20 |"},
		{"a! holds=b, b! owner=c, c holds=a", "", "", "", 2, ""},
		{"a! holds=b, b! owner=c, c! holds=a +h", "", "", "", 2, ""},
		{"a! owner=d, b owner=a, c owner=b, d owner=c", "b", "", "a b c d", 0, "21 | a! owner=d, b! :21 owner=a, c owner=b, d owner=c"},
		{"a! owner=d, b! owner=a, c! owner=b, d owner=c", "d", "", "a b c d", 0, "21 |"},
		{"a! owner=d, b owner=a, c owner=b +h, d owner=c", "b", "", "", 0, "21 | a! owner=d, b! :21 owner=a, c owner=b +h, d owner=c"},
		// One that stands on the circle, or on which it stands, from outside.
		{"a! holds=b, b! holds=a, c holds=a", "", "", "", 2, ""},
		{"a! holds=b, b! holds=a, c! holds=a", "", "a b c", "a b c", 0, "20 |"},
		{"a! holds=b, b! holds=a owner=c, c +h", "", "a b", "a b", 0, "20 | c +h"},
		{"a! holds=b, b! holds=a, c leans=a leans2=b", "", "a b", "a b", 0, "21 | c :21"},
		// Two circles, of which one goes.
		{"a! holds=b, b! holds=a, c! holds=d, d! holds=c +h", "", "a b", "a b", 0, "20 | c! holds=d, d! holds=c +h"},
		// It holds or owns itself.
		{"a! holds=a", "", "a", "a", 0, "20 |"},
		{"a holds=a", "", "", "", 2, ""},
		{"a! holds=a +h", "", "", "", 2, ""},
		{"a! owner=a", "", "a", "a", 0, "20 |"},
		{"a owner=a", "", "", "", 2, ""},
		{"a! owner=a +h", "", "", "", 2, ""},
		{"a! holds=a owner=a leans=a", "", "a", "a", 0, "20 |"},
		{"a! leans=a +h", "", "", "", 2, ""},
		{"x.m! xholds=m xleans=m", "", "x.m", "x.m", 0, "20 |"},
	})
}

func TestEndsLeaning(t *testing.T) {
	tryEnds(t, []endCase{
		// By one link, by several, and on others besides.
		{"a!, b leans=a", "", "a", "a", 0, "21 | b :21"},
		{"a!, b leans2=a", "", "a", "a", 0, "21 | b :21"},
		{"a!, b leans=a leans2=a", "", "a", "a", 0, "21 | b :21"},
		{"a!, b leans=a leans2=c, c", "", "a", "a", 0, "21 | b :21 leans2=c, c"},
		{"a!, b leans=c leans2=a, c", "", "a", "a", 0, "21 | b :21 leans=c, c"},
		{"a!, b leans=a leans2=c, c!", "", "a c", "a c", 0, "21 | b :21"},
		{"a!, b leans=b leans2=a", "", "a", "a", 0, "21 | b :21 leans=b"},
		{"x.m, a!, b holds=c leans=a owner=c xowner=m, c", "", "a", "a", 0, "21 | x.m, b :21 holds=c owner=c xowner=m, c"},
		{"a leans=b, b!", "", "b", "b", 0, "21 | a :21"},
		// On what stays nothing changes.
		{"a! +h, b leans=a", "", "", "", 2, ""},
		{"a! +h, b leans=a, c!", "", "c", "c", 0, "20 | a! +h, b leans=a"},
		{"a!, b leans=c, c", "", "a", "a", 0, "20 | b leans=c, c"},
		// What leans and goes itself.
		{"a!, b! leans=a", "", "a b", "a b", 0, "20 |"},
		{"a! leans=b, b! leans=a", "", "a b", "a b", 0, "20 |"},
		{"a!, b leans=a owner=a", "b", "", "a b", 0, "21 |"},
		{"a! leans=b, b", "", "a", "a", 0, "20 | b"},
		{"a!, b! leans=a, c leans=b", "", "a b", "a b", 0, "21 | c :21"},
		// What leans and stays, though it is Ending.
		{"a!, b! leans=a +h", "", "a", "a", 0, "21 | b! :21 +h"},
		{"a!, b owner=c leans=a +h, c!", "b", "a", "a", 0, "22 | b! :22 owner=c +h, c!"},
		// Each in order has a version of its own.
		{"a!, b leans=a, c leans=a, d, e leans=a", "", "a", "a", 0, "23 | b :21, c :22, d, e :23"},
		{"x.m leans=a, a!, b owner=a leans=a, c leans2=a, d! leans=a +h, e leans=d", "b", "", "a b", 0, "24 | x.m :22, c :23, d! :24 +h, e leans=d"},
		{"a leans=c, b owner=d +h, c!, d!, e leans=a leans2=c, f owner=d +h", "b f", "c", "c", 0, "24 | a :23, b! :21 owner=d +h, d!, e :24 leans=a, f! :22 owner=d +h"},
		{"a :9, b :8 leans=c, c! :20, d! :7 +h", "", "c", "c", 0, "21 | a :9, b :21, d! :7 +h"},
		// One name of two kinds.
		{"x.a!, x.b leans=a xleans=a, a", "", "x.a", "x.a", 0, "21 | x.b :21 leans=a, a"},
		{"x.a, x.b leans=a xleans=a, a!", "", "a", "a", 0, "21 | x.a, x.b :21 xleans=a"},
		{"x.a!, a, b owner=a, c xowner=a", "c", "", "x.a c", 0, "21 | a, b owner=a"},
		{"x.a, a!, b owner=a, c xowner=a", "b", "", "a b", 0, "21 | x.a, c xowner=a"},
		{"x.a!, x.b holds=a, a", "", "x.a", "x.a", 0, "20 | x.b holds=a, a"},
		{"x.a, x.b holds=a, a!", "", "", "", 2, ""},
		{"x.a! holds=a, a! xowner=a", "", "x.a a", "x.a a", 0, "20 |"},
		{"x.a! +h, a!", "", "a", "a", 0, "20 | x.a! +h"},
	})
}

// sweptFrom sweeps a book of endLaw whose Now is set.
func sweptFrom(t *testing.T, now int, text string) (impl.GateBook, impl.GateBook, int) {
	t.Helper()
	b := endBook(text)
	b.Now = now
	if !impl.GateBookOk(endLaw(), b) {
		t.Fatalf("%s: not ok", text)
	}
	got, code := impl.GateSweep(endLaw(), b)
	return b, got, code
}

// A sweep's versions may just end at GateMaxVersion; with one more it is not done, not even a part of it.
func TestSweepAtTheLastVersion(t *testing.T) {
	for _, c := range []struct {
		text string
		uses int
		last string
	}{
		{"a!, b leans=a", 1, "1000000 | b :1000000"},
		{"a!, b owner=a", 1, "1000000 |"},
		{"a! +h, b owner=a +h", 1, "1000000 | a! +h, b! :1000000 owner=a +h"},
		{"a!, b leans=a leans2=a", 1, "1000000 | b :1000000"},
		{"a!, b owner=a, c leans=a, d leans=b", 3, "1000000 | c :999999, d :1000000"},
		{"a!, b owner=c leans=a +h, c!", 2, "1000000 | b! :1000000 owner=c +h, c!"},
		{"a!, b owner=a +h, c owner=a +h, d owner=a +h", 3, "1000000 | a!, b! :999998 owner=a +h, c! :999999 owner=a +h, d! :1000000 owner=a +h"},
	} {
		if _, got, code := sweptFrom(t, 1000000-c.uses, c.text); code != 0 || endText(got) != c.last {
			t.Errorf("%s: %d, %s\nnot 0, %s", c.text, code, endText(got), c.last)
		}
		for now := 1000000 - c.uses + 1; now <= 1000000; now++ {
			if b, got, code := sweptFrom(t, now, c.text); code != 3 || !same(got, b) {
				t.Errorf("%s at %d: %d, %s", c.text, now, code, endText(got))
			}
		}
	}
	// What goes takes no version.
	if _, got, code := sweptFrom(t, 1000000, "a!, b! owner=a, c"); code != 0 || endText(got) != "1000000 | c" {
		t.Errorf("%d, %s", code, endText(got))
	}
}

// Of several codes the first counts.
func TestSweepCodes(t *testing.T) {
	for _, text := range []string{"", "a", "a! +h", "a!, b holds=a", "a! holds=b, b holds=a"} {
		if b, got, code := sweptFrom(t, 1000000, text); code != 2 || !same(got, b) {
			t.Errorf("%s, nothing to do at the last version: %d", text, code)
		}
	}
	for _, now := range []int{20, 1000000} {
		for _, text := range []string{"a +h", "a!", "a!, b leans=a", "a!, b owner=a"} {
			b := endBook(text)
			b.Now, b.Given = now, now+1
			if got, code := impl.GateSweep(endLaw(), b); code != 1 || !same(got, impl.GateBook{}) {
				t.Errorf("%s at %d, of a book that is not ok: %d, %s", text, now, code, endText(got))
			}
			b.Given = now
			if _, code := impl.GateSweep(endLaw(), b); code == 1 {
				t.Errorf("%s at %d: the book is ok", text, now)
			}
		}
	}
}

// What goes is free again: in the ledgers of its own team and of those over it, of its Kind and of what its fields weigh.
func TestSweepFree(t *testing.T) {
	l := endLaw()
	b := endBook("x.a! @pit size=4, a! @lab size=3, b! @ops size=5, c @lab size=7 leans=b, d! size=2 +h, e @sub size=6 owner=a")
	b.Given, b.Grants = 5, bookOf("grant 2 ann . 12345 . . .\ngrant 5 bob ann 1 box dev x").Grants
	for i, words := range []string{"dev box", "dev thing", "dev w", "lab box", "lab w", "ops thing", "ops w", "pit w", "sea box", "sub w"} {
		team, resource, _ := strings.Cut(words, " ")
		b.Ledgers = append(b.Ledgers, impl.GateLedger{Team: team, Resource: resource, Free: 10 * i})
	}
	b.Purses = bookOf("purse d1 dev w 4 3\npurse d2 lab box 1 13").Purses
	balance(l, &b)
	got, code := impl.GateSweep(l, b)
	if want := "22 | c :22 @lab size=7, d! size=2 +h"; code != 0 || endText(got) != want {
		t.Errorf("%d, %s\nnot 0, %s", code, endText(got), want)
	}
	freed := ""
	for i, g := range got.Ledgers {
		freed += fmt.Sprintf("%s %s %d, ", g.Team, g.Resource, g.Free-b.Ledgers[i].Free)
		if g.Free -= g.Free - b.Ledgers[i].Free; g != b.Ledgers[i] {
			t.Errorf("more than the Free of %+v has changed", g)
		}
	}
	if want := "dev box 5, dev thing 2, dev w 9, lab box 5, lab w 9, ops thing 1, ops w 5, pit w 6, sea box 0, sub w 6, "; freed != want {
		t.Errorf("%s\nnot %s", freed, want)
	}
	if !same(got.Purses, b.Purses) || !same(got.Grants, b.Grants) || got.Tick != 3 || got.Given != 5 {
		t.Errorf("more has changed: %s", bookText(got))
	}
	holdBounds(t, l, got)
	// What becomes Ending, and what leaned, weighs what it did.
	stay := endBook("a! +h, b owner=a +h, c!, d leans=c size=9")
	stay.Ledgers = []impl.GateLedger{{Team: "dev", Resource: "thing"}, {Team: "dev", Resource: "w"}}
	balance(l, &stay)
	got, code = impl.GateSweep(l, stay)
	if want := "22 | a! +h, b! :21 owner=a +h, d :22 size=9"; code != 0 || endText(got) != want || got.Ledgers[0].Free != 1 || got.Ledgers[1].Free != 1 {
		t.Errorf("%d, %s\nnot 0, %s", code, bookText(got), want)
	}
	holdBounds(t, l, got)
}

// longRow is forty objects, each owned by the one before, of which the first is Ending.
func longRow(last string) impl.GateBook {
	text := "a00!"
	for n := 1; n < 40; n++ {
		text += fmt.Sprintf(", a%02d owner=a%02d", n, n-1)
	}
	return endBook(text + last)
}

func TestSweepsOfALongRow(t *testing.T) {
	l := endLaw()
	for _, last := range []string{"", " +h"} {
		b := longRow(last)
		doomed := len(impl.GateDoomed(l, b))
		for n := 1; n < 40; n++ {
			if got := namedAt(b, impl.GateMark(l, b)); got != fmt.Sprintf("a%02d", n) {
				t.Fatalf("GateMark %q", got)
			}
			if got := impl.GateGoing(l, b); len(got) != 0 {
				t.Fatalf("GateGoing %v", got)
			}
			var code int
			if b, code = impl.GateSweep(l, b); code != 0 || b.Now != 20+n {
				t.Fatalf("sweep %d: %d, %s", n, code, endText(b))
			}
		}
		if _, code := impl.GateSweep(l, b); code != 2 || len(b.Objects)+doomed != 40 || last == "" && doomed != 40 || last != "" && doomed != 0 {
			t.Errorf("%q: %d at last, %d were doomed, %s", last, code, doomed, endText(b))
		}
	}
	// A circle of forty goes whole, or stays whole.
	ring := longRow("")
	for i := range ring.Objects {
		ring.Objects[i].Ending = true
	}
	ring.Objects[0].Values[4] = "a39"
	if got, code := impl.GateSweep(l, ring); code != 0 || endText(got) != "20 |" {
		t.Errorf("%d, %s", code, endText(got))
	}
	ring.Objects[17].Holds = []string{"h"}
	if got, code := impl.GateSweep(l, ring); code != 2 || !same(got, ring) {
		t.Errorf("%d, %s", code, endText(got))
	}
}

// endsNothing asks that all four answer nothing, and GateSweep with the code 1.
func endsNothing(t *testing.T, what string, l impl.GateLaw, b impl.GateBook) {
	t.Helper()
	for name, got := range map[string][]int{"GateMark": impl.GateMark(l, b), "GateGoing": impl.GateGoing(l, b), "GateDoomed": impl.GateDoomed(l, b)} {
		if len(got) != 0 {
			t.Errorf("%s: %s %v", what, name, got)
		}
	}
	if got, code := impl.GateSweep(l, b); code != 1 || !same(got, impl.GateBook{}) {
		t.Errorf("%s: GateSweep %d, %s", what, code, bookText(got))
	}
}

func TestEndsNotOk(t *testing.T) {
	full := "x.m!, a!, b owner=a, c leans=b, d! holds=a"
	for name, spoil := range map[string]func(l *impl.GateLaw, b *impl.GateBook){
		"no law":            func(l *impl.GateLaw, b *impl.GateBook) { *l = impl.GateLaw{} },
		"shapes, order":     func(l *impl.GateLaw, b *impl.GateBook) { slices.Reverse(l.Shapes) },
		"a role":            func(l *impl.GateLaw, b *impl.GateBook) { l.Shapes[1].Fields[4].Role = 4 },
		"a Must that leans": func(l *impl.GateLaw, b *impl.GateBook) { l.Shapes[1].Fields[2].Must = true },
		"teams":             func(l *impl.GateLaw, b *impl.GateBook) { l.Teams[1].Over = "lab" },
		"mends":             func(l *impl.GateLaw, b *impl.GateBook) { l.Mends = []impl.GateMend{{}} },
		"Now":               func(l *impl.GateLaw, b *impl.GateBook) { b.Now = 1000001 },
		"Now, below":        func(l *impl.GateLaw, b *impl.GateBook) { b.Now = 0 },
		"a version":         func(l *impl.GateLaw, b *impl.GateBook) { b.Objects[2].Version = 21 },
		"objects, order":    func(l *impl.GateLaw, b *impl.GateBook) { slices.Reverse(b.Objects) },
		"an object, twice":  func(l *impl.GateLaw, b *impl.GateBook) { b.Objects = append(b.Objects, b.Objects[4]) },
		"an owner":          func(l *impl.GateLaw, b *impl.GateBook) { b.Objects[2].Values[4] = "aa" },
		"an owner's kind":   func(l *impl.GateLaw, b *impl.GateBook) { b.Objects[2].Values[4] = "m" },
		"what it leans on":  func(l *impl.GateLaw, b *impl.GateBook) { b.Objects[3].Values[3] = "x" },
		"what it holds":     func(l *impl.GateLaw, b *impl.GateBook) { b.Objects[4].Values[1] = "x" },
		"values":            func(l *impl.GateLaw, b *impl.GateBook) { b.Objects[4].Values = b.Objects[4].Values[:5] },
		"no values":         func(l *impl.GateLaw, b *impl.GateBook) { b.Objects[4].Values = nil },
		"holds":             func(l *impl.GateLaw, b *impl.GateBook) { b.Objects[4].Holds = []string{"k", "h"} },
		"a team":            func(l *impl.GateLaw, b *impl.GateBook) { b.Objects[4].Team = "none" },
		"a kind":            func(l *impl.GateLaw, b *impl.GateBook) { b.Objects[4].Kind = "things" },
		"a sum": func(l *impl.GateLaw, b *impl.GateBook) {
			b.Ledgers = []impl.GateLedger{{Team: "dev", Resource: "w", Most: 4, Free: 1}}
		},
		"forty-one": func(l *impl.GateLaw, b *impl.GateBook) {
			*b = longRow(", a40!")
		},
	} {
		l, b := endLaw(), endBook(full)
		if !impl.GateBookOk(l, b) || len(impl.GateMark(l, b)) == 0 || len(impl.GateGoing(l, b)) == 0 || len(impl.GateDoomed(l, b)) == 0 {
			t.Fatal("the book has something of each")
		}
		spoil(&l, &b)
		endsNothing(t, name, l, b)
	}
	for name, b := range badBooks() {
		endsNothing(t, "a book with a fault: "+name, bookLaw(), b)
	}
	for name, l := range badLaws() {
		endsNothing(t, "a law with a fault: "+name, l, sampleBook())
		endsNothing(t, "a law with a fault: "+name, l, impl.GateBook{})
	}
	if got, code := impl.GateSweep(impl.GateLaw{}, impl.GateBook{}); code != 2 || !same(got, impl.GateBook{}) {
		t.Errorf("a law and a book of nothing are ok: %d", code)
	}
}

func TestEndsOddTexts(t *testing.T) {
	for i, text := range oddTexts() {
		for name, lay := range map[string]func(o *impl.GateObject){
			"Kind":   func(o *impl.GateObject) { o.Kind = text },
			"Team":   func(o *impl.GateObject) { o.Team = text },
			"a hold": func(o *impl.GateObject) { o.Holds = []string{text} },
			"a link": func(o *impl.GateObject) { o.Values[4] = text },
			"Name":   func(o *impl.GateObject) { o.Name = text },
			"size":   func(o *impl.GateObject) { o.Values[0] = text },
		} {
			b := endBook("a!")
			lay(&b.Objects[0])
			what := fmt.Sprintf("odd text %d as %s", i, name)
			if !saidBookOk(endLaw(), b) {
				endsNothing(t, what, endLaw(), b)
				continue
			}
			want := []int{0}
			if name == "a hold" {
				want = nil
			}
			if got := impl.GateGoing(endLaw(), b); !slices.Equal(got, want) {
				t.Errorf("%s: GateGoing %v", what, got)
			}
		}
	}
}

func TestEndMemory(t *testing.T) {
	late := endBook("a!, b owner=a +h, c leans=a leans2=b")
	late.Now = 1000000
	ledgers := endBook("x.m!, a!, b owner=a, c leans=b leans2=d, d! +h, e leans=a")
	ledgers.Given, ledgers.Grants = 5, bookOf("grant 2 ann . 12345 . . .\ngrant 5 bob ann 1 box dev x").Grants
	ledgers.Ledgers = []impl.GateLedger{{Team: "dev", Resource: "w", Free: 3}}
	ledgers.Purses = bookOf("purse d1 dev w 4 3").Purses
	balance(endLaw(), &ledgers)
	for i, c := range []struct {
		book impl.GateBook
		code int
	}{
		{ledgers, 0}, {endBook("a!, b owner=a +h, c leans=a leans2=b"), 0}, {endBook("a!, b!, c!"), 0}, {endBook("a! +h, b"), 2}, {late, 3}, {impl.GateBook{}, 2}, {impl.GateBook{Now: -1, Objects: ledgers.Objects}, 1},
	} {
		l, b := withRoom(endLaw()), withRoom(c.book)
		args := []any{l, b}
		ownMemory(t, fmt.Sprintf("GateSweep of book %d", i), args, func() any {
			got, code := impl.GateSweep(l, b)
			if code != c.code {
				t.Errorf("book %d: %d, not %d", i, code, c.code)
			}
			return got
		})
		ownMemory(t, fmt.Sprintf("GateMark of book %d", i), args, func() any { return impl.GateMark(l, b) })
		ownMemory(t, fmt.Sprintf("GateGoing of book %d", i), args, func() any { return impl.GateGoing(l, b) })
		ownMemory(t, fmt.Sprintf("GateDoomed of book %d", i), args, func() any { return impl.GateDoomed(l, b) })
	}
}
