package tests

import (
	"fmt"
	"math"
	"slices"
	"strconv"
	"strings"
	"testing"

	"loop.example/wharfgate/impl"
)

// bookLaw has teams five deep, and resources that are kinds, weighed by one field, by several, and both.
func bookLaw() impl.GateLaw {
	return impl.GateLaw{
		Shapes: []impl.GateShape{
			{Kind: "berth", Fields: []impl.GateField{
				{Name: "room", Kind: impl.GateNumber, Least: 1, Most: 64, Must: true, Weighs: "room"},
				{Name: "zone", Kind: impl.GateWord, Words: []string{"a", "b"}, Default: "a"},
			}},
			{Kind: "job", Fields: []impl.GateField{
				{Name: "need", Kind: impl.GateNumber, Most: 32, Default: "1", Weighs: "need"},
				{Name: "more", Kind: impl.GateNumber, Most: impl.GateMaxNumber, Weighs: "need"},
				{Name: "mode", Kind: impl.GateWord, Words: []string{"big", "small"}},
				{Name: "on", Kind: impl.GateLink, To: "berth", Role: impl.GateHolds},
				{Name: "by", Kind: impl.GateLink, To: "job", Role: impl.GateLeans},
				{Name: "of", Kind: impl.GateLink, To: "job", Role: impl.GateOwned},
			}},
			{Kind: "vol", Fields: []impl.GateField{
				{Name: "size", Kind: impl.GateNumber, Most: impl.GateMaxNumber, Weighs: "vol"},
				{Name: "note", Kind: impl.GateText, Least: 1, Most: 5},
			}},
		},
		Mends: []impl.GateMend{{Kind: "job", Field: "need", When: "mode", Is: "big", Put: "8"}},
		Teams: teamsOf("dev lab<dev ops pit<lab sea<pit sub<sea"),
	}
}

// bookOf reads a book, a thing a line; "." stands for nothing.
//
//	now 20 tick 7 given 6
//	object KIND NAME TEAM VERSION VALUE,VALUE .. and behind it "+hold" and "ending"
//	grant NUMBER TO BY VERBS KIND TEAM PREFIX
//	ledger TEAM RESOURCE FREE MOST
//	purse DOOR TEAM RESOURCE AMOUNT UNTIL
func bookOf(text string) impl.GateBook {
	var b impl.GateBook
	for line := range strings.Lines(text) {
		words := strings.Fields(line)
		if len(words) == 0 {
			continue
		}
		number := func(i int) int {
			n, err := strconv.Atoi(words[i])
			if err != nil {
				panic(err)
			}
			return n
		}
		switch words[0] {
		case "now":
			b.Now, b.Tick, b.Given = number(1), number(3), number(5)
		case "object":
			b.Objects = append(b.Objects, objectOf(strings.Join(words[1:], " ")))
		case "grant":
			g := impl.GateGrant{Number: number(1), To: words[2], By: strings.Trim(words[3], "."), Rule: ruleOf(strings.Join(words[4:], " "))}
			b.Grants = append(b.Grants, g)
		case "ledger":
			b.Ledgers = append(b.Ledgers, impl.GateLedger{Team: words[1], Resource: words[2], Free: number(3), Most: number(4)})
		case "purse":
			b.Purses = append(b.Purses, impl.GatePurse{Door: words[1], Team: words[2], Resource: words[3], Amount: number(4), Until: number(5)})
		default:
			panic(line)
		}
	}
	return b
}

func objectOf(text string) impl.GateObject {
	words := strings.Fields(text)
	version, err := strconv.Atoi(words[3])
	if err != nil {
		panic(err)
	}
	o := impl.GateObject{Kind: words[0], Name: words[1], Team: words[2], Version: version}
	if words[4] != "." {
		o.Values = strings.Split(words[4], ",")
	}
	for _, word := range words[5:] {
		if word == "ending" {
			o.Ending = true
		} else {
			o.Holds = append(o.Holds, strings.TrimPrefix(word, "+"))
		}
	}
	return o
}

// sampleBook is ok by bookLaw; much of it stands just at its bounds.
func sampleBook() impl.GateBook {
	return bookOf(`
		now 20 tick 7 given 6
		object berth b1 dev 3 8,a
		object berth b2 ops 4 9,b
		object job j1 lab 5 8,2,big,b1,, +h +k
		object job j2 sub 20 1,,,b2,j1,j1 ending
		object job j3 ops 6 5,,small,,,j3
		object vol v1 pit 1 4,
		grant 1 ann . 12345 . . .
		grant 4 bob ann 12 job dev b
		grant 6 cy bob 1 job nowhere bb
		ledger dev job 0 2
		ledger dev need 20 40
		ledger lab need 18 30
		ledger ops room 0 9
		ledger pit vol 0 100
		purse d1 dev need 6 7
		purse d1 lab need 1 17
		purse d2 dev need 3 8
		purse d2 pit vol 95 10
	`)
}

// badLaws is laws that are not ok, though most of each is, and each by one part alone.
func badLaws() map[string]impl.GateLaw {
	out := map[string]impl.GateLaw{}
	for name, spoil := range map[string]func(l *impl.GateLaw){
		"shapes":            func(l *impl.GateLaw) { l.Shapes[2].Fields[1].Most = 41 },
		"shapes, order":     func(l *impl.GateLaw) { l.Shapes[0], l.Shapes[1] = l.Shapes[1], l.Shapes[0] },
		"a mend of no kind": func(l *impl.GateLaw) { l.Mends[0].Kind = "jobs" },
		"mends in a circle": func(l *impl.GateLaw) { l.Mends = append(l.Mends, mendOf("job.mode=big if need is 1")) },
		"too many mends":    func(l *impl.GateLaw) { l.Mends = slices.Repeat(l.Mends, 13) },
		"teams, order":      func(l *impl.GateLaw) { l.Teams[0], l.Teams[1] = l.Teams[1], l.Teams[0] },
		"teams, too deep":   func(l *impl.GateLaw) { l.Teams = append(l.Teams, teamsOf("sum<sub")...) },
		"teams, Over none":  func(l *impl.GateLaw) { l.Teams[2].Over = "none" },
	} {
		l := bookLaw()
		spoil(&l)
		out[name] = l
	}
	return out
}

func TestLawOk(t *testing.T) {
	if !impl.GateLawOk(bookLaw()) {
		t.Error("the law of the tests is not ok")
	}
	if !impl.GateLawOk(impl.GateLaw{}) {
		t.Error("a law of nothing is ok: it has no mends and no teams that are not")
	}
	for name, l := range badLaws() {
		if impl.GateLawOk(l) {
			t.Errorf("%s: ok", name)
		}
	}
	twelve := bookLaw()
	twelve.Mends = slices.Repeat(twelve.Mends, 12)
	twelve.Teams = teamsOf("dev lab<dev n0 n1 n2 n3 n4 n5 n6 ops pit<lab sea<pit")
	if !impl.GateLawOk(twelve) {
		t.Error("twelve mends and twelve teams are ok")
	}
	for name, teams := range badTeams() {
		l := bookLaw()
		l.Teams = teams
		if impl.GateLawOk(l) {
			t.Errorf("teams %s: ok", name)
		}
	}
	for name, shapes := range notOk() {
		if impl.GateLawOk(impl.GateLaw{Shapes: shapes, Teams: teamsOf("dev")}) {
			t.Errorf("shapes %s: ok", name)
		}
	}
}

func TestWeighs(t *testing.T) {
	for _, c := range []struct {
		object, resource string
		want             int
	}{
		{"berth b dev 1 8,a", "room", 8},
		{"berth b dev 1 8,a", "berth", 1},
		{"berth b dev 1 8,a", "need", 0},
		{"berth b dev 1 8,a", "zone", 0},
		{"berth b dev 1 8,a", "b", 0},
		{"berth b dev 1 8,a", "dev", 0},
		// Several fields of one resource are added up; one that is not set is 0.
		{"job j dev 1 8,2,,,,", "need", 10},
		{"job j dev 1 8,,,,,", "need", 8},
		{"job j dev 1 ,2,,,,", "need", 2},
		{"job j dev 1 ,,,,,", "need", 0},
		{"job j dev 1 8,2,,,,", "job", 1},
		{"job j dev 1 8,2,,,,", "more", 0},
		{"job j dev 1 0,0,,,,", "need", 0},
		// A value of a link or a word weighs nothing, though it is a decimal.
		{"job j dev 1 8,2,7,7,7,7", "need", 10},
		// The resource is the Kind, and a field's Weighs.
		{"vol v dev 1 4,", "vol", 5},
		{"vol v dev 1 0,", "vol", 1},
		{"vol v dev 1 ,", "vol", 1},
		{"vol v dev 1 1000000,", "vol", 1000001},
		{"vol v dev 1 x,", "vol", 1},
		// What fits the field does not matter, but that it is a decimal.
		{"berth b dev 1 0,a", "room", 0},
		{"berth b dev 1 65,a", "room", 65},
		{"berth b dev 1 9999999,a", "room", 9999999},
		{"berth b dev 1 10000000,a", "room", 0},
		{"berth b dev 1 08,a", "room", 0},
		{"berth b dev 1 00,a", "room", 0},
		{"berth b dev 1 -8,a", "room", 0},
		{"berth b dev 1 +8,a", "room", 0},
		{"berth b dev 1 8x,a", "room", 0},
		{"berth b dev 1 8.0,a", "room", 0},
		{"job j dev 1 x,2,,,,", "need", 2},
		// The empty resource, though a field's Weighs is empty.
		{"berth b dev 1 8,a", "", 0},
		{"vol v dev 1 4,note", "", 0},
		// No shape of the Kind.
		{"ship s dev 1 8,a", "room", 0},
		{"ship s dev 1 8,a", "ship", 0},
		{"ship s dev 1 .", "ship", 0},
		// More or fewer values than fields.
		{"berth b dev 1 8", "room", 0},
		{"berth b dev 1 8", "berth", 0},
		{"berth b dev 1 8,a,", "room", 0},
		{"berth b dev 1 8,a,", "berth", 0},
		{"berth b dev 1 .", "berth", 0},
		// Nothing else in the object is looked at.
		{"berth B! nowhere -5 8,zz +h +h +g +f ending", "room", 8},
	} {
		if got := impl.GateWeighs(bookLaw(), objectOf(c.object), c.resource); got != c.want {
			t.Errorf("%s is %d of %q, not %d", c.object, got, c.resource, c.want)
		}
	}
	empty := impl.GateObject{Values: []string{"8", "a"}}
	if got := impl.GateWeighs(bookLaw(), empty, ""); got != 0 {
		t.Errorf("an object of the empty Kind is %d of the empty resource", got)
	}
	for _, text := range oddTexts() {
		want := 0
		if decimalForm.MatchString(text) {
			want, _ = strconv.Atoi(text)
		}
		o := impl.GateObject{Kind: "berth", Name: "b", Team: "dev", Values: []string{text, "a"}}
		if got := impl.GateWeighs(bookLaw(), o, "room"); got != want {
			t.Errorf("a value of %d bytes weighs %d, not %d", len(text), got, want)
		}
		if got := impl.GateWeighs(bookLaw(), o, text); got != 0 {
			t.Errorf("%d of a resource that nothing weighs", got)
		}
	}
}

// A law that is not ok weighs as its words stand.
func TestWeighsByAnyLaw(t *testing.T) {
	number := func(name, weighs string) impl.GateField {
		return impl.GateField{Name: name, Kind: impl.GateNumber, Least: 5, Most: 1, Weighs: weighs}
	}
	l := impl.GateLaw{
		Shapes: []impl.GateShape{
			{Kind: "z", Fields: []impl.GateField{number("n", "No Name"), number("n", "No Name"), {Name: "w", Kind: impl.GateWord, Weighs: "No Name"}, {Kind: 9, Weighs: "No Name"}, {Kind: impl.GateText, Weighs: "No Name"}, {Kind: impl.GateLink, Weighs: "No Name"}, {Weighs: "No Name"}}},
			{Kind: "a", Fields: []impl.GateField{number("n", "r")}},
			{Kind: "a", Fields: []impl.GateField{number("n", "s"), number("m", "r")}},
			{Kind: "", Fields: []impl.GateField{number("n", "r"), number("m", "")}},
		},
		Mends: []impl.GateMend{{}},
		Teams: teamsOf("z y"),
	}
	for _, c := range []struct {
		kind     string
		values   []string
		resource string
		want     int
	}{
		{"z", []string{"3", "4", "5", "6", "7", "8", "9"}, "No Name", 7},
		{"z", []string{"3", "4", "5", "6", "7", "8", "9"}, "z", 1},
		// Of two shapes of one Kind the first counts.
		{"a", []string{"3"}, "r", 3},
		{"a", []string{"3"}, "s", 0},
		{"a", []string{"3", "4"}, "r", 0},
		{"a", []string{"3", "4"}, "s", 0},
		{"a", []string{"3", "4"}, "a", 0},
		// The empty Kind has a shape here.
		{"", []string{"3", "4"}, "r", 3},
		{"", []string{"3", "4"}, "", 0},
	} {
		if got := impl.GateWeighs(l, impl.GateObject{Kind: c.kind, Values: c.values}, c.resource); got != c.want {
			t.Errorf("%q of %q is %d of %q, not %d", c.values, c.kind, got, c.resource, c.want)
		}
	}
	many := impl.GateLaw{Shapes: []impl.GateShape{{Kind: "a", Fields: slices.Repeat([]impl.GateField{number("n", "r")}, 20000)}}}
	if got := impl.GateWeighs(many, impl.GateObject{Kind: "a", Values: slices.Repeat([]string{"9999999"}, 20000)}, "r"); got != 20000*9999999 {
		t.Errorf("very many fields: %d", got)
	}
}

func TestUsed(t *testing.T) {
	for _, c := range []struct {
		team, resource string
		want           int
	}{
		{"dev", "need", 11}, {"lab", "need", 11}, {"pit", "need", 1}, {"sea", "need", 1}, {"sub", "need", 1}, {"ops", "need", 5},
		{"dev", "room", 8}, {"lab", "room", 0}, {"ops", "room", 9}, {"pit", "room", 0},
		{"dev", "vol", 5}, {"lab", "vol", 5}, {"pit", "vol", 5}, {"sea", "vol", 0}, {"sub", "vol", 0}, {"ops", "vol", 0},
		{"dev", "job", 2}, {"lab", "job", 2}, {"sub", "job", 1}, {"ops", "job", 1}, {"dev", "berth", 1}, {"ops", "berth", 1},
		{"dev", "", 0}, {"", "need", 0}, {"none", "need", 0}, {"dev", "none", 0}, {"de", "need", 0}, {"DEV", "need", 0},
	} {
		if got := impl.GateUsed(bookLaw(), sampleBook(), c.team, c.resource); got != c.want {
			t.Errorf("%s uses %d of %s, not %d", c.team, got, c.resource, c.want)
		}
	}
	if got := impl.GateUsed(bookLaw(), impl.GateBook{}, "dev", "need"); got != 0 {
		t.Errorf("an empty book uses %d", got)
	}
	for _, text := range oddTexts() {
		if got := impl.GateUsed(bookLaw(), sampleBook(), text, "need") + impl.GateUsed(bookLaw(), sampleBook(), "dev", text); got != 0 {
			t.Errorf("odd texts use %d", got)
		}
	}
}

// A law and a book that are not ok are added up as the words stand.
func TestUsedOfAnything(t *testing.T) {
	l := bookLaw()
	l.Teams = teamsOf("a<b b<a c<c d<e e<f f<g g<h h<i i a<z")
	b := bookOf(`
		object berth b a 1 1,a
		object berth b a 1 2,a
		object berth c b 1 4,a
		object berth a c 1 8,a
		object berth a d 1 16,a
		object berth a nowhere 1 32,a
		object ship a a 1 64,a
		object berth a a 1 128
		object berth a i 1 256,a
		object berth a z 1 512,a
	`)
	b.Objects = append(b.Objects, impl.GateObject{Kind: "berth", Values: []string{"1024", ""}})
	for team, want := range map[string]int{
		// Each object counts once, also twice the same, also where teams go round in a circle.
		"a": 7, "b": 7, "c": 8, "z": 512, "nowhere": 32, "none": 0,
		// Four steps up from d is h, not i.
		"d": 16, "e": 16, "g": 16, "h": 16, "i": 256,
		// The object without a team is in the empty one.
		"": 1024,
	} {
		if got := impl.GateUsed(l, b, team, "room"); got != want {
			t.Errorf("%q uses %d, not %d", team, got, want)
		}
	}
	many := impl.GateBook{Objects: slices.Repeat(b.Objects[:1], 30000)}
	if got := impl.GateUsed(l, many, "b", "room"); got != 30000 {
		t.Errorf("very many objects use %d", got)
	}
}

// bookCase is what is done to the sample, and whether it is ok then.
type bookCase struct {
	what string
	turn func(b *impl.GateBook)
	ok   bool
}

func tryBooks(t *testing.T, cases []bookCase) {
	t.Helper()
	for _, c := range cases {
		b := sampleBook()
		c.turn(&b)
		if got := impl.GateBookOk(bookLaw(), b); got != c.ok {
			t.Errorf("%s: %v", c.what, got)
		}
	}
}

func TestBookOk(t *testing.T) {
	if !impl.GateBookOk(bookLaw(), sampleBook()) {
		t.Fatal("the sample is not ok")
	}
	if !impl.GateBookOk(bookLaw(), impl.GateBook{}) || !impl.GateBookOk(impl.GateLaw{}, impl.GateBook{}) {
		t.Error("an empty book is ok")
	}
	for name, l := range badLaws() {
		if impl.GateBookOk(l, impl.GateBook{}) || impl.GateBookOk(l, sampleBook()) {
			t.Errorf("ok by a law that is not: %s", name)
		}
	}
	if impl.GateBookOk(impl.GateLaw{}, sampleBook()) {
		t.Error("ok by a law of nothing")
	}
}

func TestBookCounts(t *testing.T) {
	bare := func(now, tick, given int) impl.GateBook { return impl.GateBook{Now: now, Tick: tick, Given: given} }
	for _, c := range []struct {
		b  impl.GateBook
		ok bool
	}{
		{bare(0, 0, 0), true}, {bare(1, 0, 0), true}, {bare(1, 0, 1), true},
		{bare(1000000, 1000000, 1000000), true}, {bare(1000000, 1000000, 0), true},
		{bare(1000001, 0, 0), false}, {bare(1000001, 0, 1000001), false}, {bare(-1, 0, 0), false}, {bare(-1, 0, -1), false}, {bare(math.MinInt, 0, math.MinInt), false}, {bare(math.MaxInt, 0, 0), false},
		{bare(0, -1, 0), false}, {bare(0, 1000001, 0), false}, {bare(0, math.MinInt, 0), false}, {bare(0, math.MaxInt, 0), false},
		{bare(5, 0, -1), false}, {bare(5, 0, 6), false}, {bare(0, 0, 1), false}, {bare(5, 0, math.MinInt), false}, {bare(5, 0, math.MaxInt), false},
	} {
		if got := impl.GateBookOk(bookLaw(), c.b); got != c.ok {
			t.Errorf("now %d, tick %d, given %d: %v", c.b.Now, c.b.Tick, c.b.Given, got)
		}
	}
	tryBooks(t, []bookCase{
		{"Now at the last object's version", func(b *impl.GateBook) { b.Now = 20 }, true},
		{"Now one below it", func(b *impl.GateBook) { b.Now = 19 }, false},
		{"Given at the last grant's number", func(b *impl.GateBook) { b.Given = 6 }, true},
		{"Given one below it", func(b *impl.GateBook) { b.Given = 5 }, false},
		{"Given at Now", func(b *impl.GateBook) { b.Given = 20 }, true},
		{"Given one above Now", func(b *impl.GateBook) { b.Given = 21 }, false},
		{"Tick one more than the first Until", func(b *impl.GateBook) { b.Tick = 8 }, false},
		{"Tick one less, the last Until too far", func(b *impl.GateBook) { b.Tick = 6 }, false},
	})
}

func TestBookObjects(t *testing.T) {
	set := func(place int, turn func(o *impl.GateObject)) func(b *impl.GateBook) {
		return func(b *impl.GateBook) { turn(&b.Objects[place]) }
	}
	values := func(place int, text string) func(b *impl.GateBook) {
		return set(place, func(o *impl.GateObject) { o.Values = strings.Split(text, ",") })
	}
	add := func(place int, text string) func(b *impl.GateBook) {
		return func(b *impl.GateBook) { b.Objects = slices.Insert(b.Objects, place, objectOf(text)) }
	}
	// Those of ops need nothing that is bounded but room.
	fill := func(size int) func(b *impl.GateBook) {
		return func(b *impl.GateBook) {
			for n := 0; len(b.Objects) < size; n++ {
				b.Objects = append(b.Objects, objectOf(fmt.Sprintf("vol w%02d ops 1 1,", n)))
			}
		}
	}
	tryBooks(t, []bookCase{
		{"forty", fill(40), true},
		{"one more", fill(41), false},
		{"very many", func(b *impl.GateBook) { b.Objects = slices.Repeat(b.Objects, 5000) }, false},
		// Their order: by Kind and then by Name.
		{"two kinds changed", func(b *impl.GateBook) { b.Objects[0], b.Objects[2] = b.Objects[2], b.Objects[0] }, false},
		{"two names changed", func(b *impl.GateBook) { b.Objects[0], b.Objects[1] = b.Objects[1], b.Objects[0] }, false},
		{"by name, not by kind", func(b *impl.GateBook) {
			b.Objects = []impl.GateObject{objectOf("vol a ops 1 1,"), objectOf("job b ops 1 1,,,,,"), objectOf("berth b1 dev 3 8,a")}
			b.Ledgers, b.Purses = nil, nil
		}, false},
		{"by kind, the names falling", func(b *impl.GateBook) {
			b.Objects = []impl.GateObject{objectOf("berth z dev 3 8,a"), objectOf("job b ops 1 1,,,,,"), objectOf("vol a ops 1 1,")}
			b.Ledgers, b.Purses = nil, nil
		}, true},
		{"one name of two kinds", add(2, "job b2 ops 1 1,,,,,"), true},
		{"twice the same", func(b *impl.GateBook) { b.Objects = slices.Insert(b.Objects, 4, b.Objects[4]) }, false},
		{"twice the same kind and name", add(4, "job j3 ops 1 1,,,,,"), false},
		{"a name that begins like the last", add(5, "job j33 ops 1 1,,,,,"), true},
		{"a name that begins like the next", add(4, "job j ops 1 1,,,,,"), false},
		// GateCheck.
		{"no kind", add(6, "wharf w ops 1 ."), false},
		{"a Name that is none", add(5, "job j4! ops 1 1,,,,,"), false},
		{"a Name too long", add(5, "job j4567890123456789 ops 1 1,,,,,"), false},
		{"a Name of sixteen", add(5, "job j456789012345678 ops 1 1,,,,,"), true},
		{"a Must field not set", values(0, ",a"), false},
		{"a value that does not fit", values(1, "9,c"), false},
		{"a number at its most", values(4, "32,1000000,small,,,j3"), true},
		{"one beyond", values(4, "33,,small,,,j3"), false},
		{"one beyond, the other", values(4, "32,1000001,small,,,j3"), false},
		{"a decimal with a zero ahead", values(4, "05,,small,,,j3"), false},
		{"one value more", values(5, "4,,"), false},
		{"one value less", values(5, "4"), false},
		{"three holds", set(2, func(o *impl.GateObject) { o.Holds = []string{"h", "k", "l"} }), true},
		{"four holds", set(2, func(o *impl.GateObject) { o.Holds = []string{"h", "k", "l", "m"} }), false},
		{"holds falling", set(2, func(o *impl.GateObject) { o.Holds = []string{"k", "h"} }), false},
		{"a hold that is no name", set(2, func(o *impl.GateObject) { o.Holds = []string{"H"} }), false},
		{"Ending", set(0, func(o *impl.GateObject) { o.Ending = true }), true},
		// The Version is 1 to Now.
		{"Version 1", set(0, func(o *impl.GateObject) { o.Version = 1 }), true},
		{"Version 0", set(0, func(o *impl.GateObject) { o.Version = 0 }), false},
		{"Version -1", set(0, func(o *impl.GateObject) { o.Version = -1 }), false},
		{"Version Now", set(0, func(o *impl.GateObject) { o.Version = 20 }), true},
		{"Version Now + 1", set(0, func(o *impl.GateObject) { o.Version = 21 }), false},
		{"Version above every limit", set(0, func(o *impl.GateObject) { o.Version = math.MaxInt }), false},
		{"two of one Version", set(0, func(o *impl.GateObject) { o.Version = 4 }), true},
		// The Team is one of the law's.
		{"another Team", set(4, func(o *impl.GateObject) { o.Team = "dev" }), false},
		{"another Team, where the sums are right", func(b *impl.GateBook) {
			b.Objects[4].Team, b.Ledgers = "dev", b.Ledgers[2:]
			b.Purses = slices.Delete(b.Purses, 0, 1)
			b.Purses = slices.Delete(b.Purses, 1, 2)
		}, true},
		{"a Team that is none of the law's", add(5, "job j4 none 1 1,,,,,"), false},
		{"a Team that is no name", add(5, "job j4 Ops 1 1,,,,,"), false},
		{"no Team", func(b *impl.GateBook) { b.Objects[4].Team = "" }, false},
		// GateShaped has the same values.
		{"a default that is not filled in", values(4, ",,small,,,j3"), false},
		{"a default that is not filled in, a word", values(0, "8,"), false},
		{"as the mend leaves it", values(4, "8,,big,,,j3"), true},
		{"as the mend does not leave it", values(4, "5,,big,,,j3"), false},
		{"not set, without a default", values(4, "5,,,,,j3"), true},
		// Links.
		{"a link to itself", values(4, "5,,small,,,j3"), true},
		{"a link to an Ending one", values(4, "5,,small,,j2,j2"), true},
		{"no link", values(4, "5,,small,,,"), true},
		{"a holding link to nothing", values(4, "5,,small,b3,,"), false},
		{"a leaning link to nothing", values(4, "5,,small,,j4,"), false},
		{"an owned link to nothing", values(4, "5,,small,,,j4"), false},
		{"a holding link to a wrong kind", values(4, "5,,small,j1,,"), false},
		{"a leaning link to a wrong kind", values(4, "5,,small,,b1,"), false},
		{"an owned link to a wrong kind", values(4, "5,,small,,,v1"), false},
		{"a good link behind a bad one", values(4, "5,,small,b3,j1,j1"), false},
		{"a bad link behind good ones", values(4, "5,,small,b1,j1,j4"), false},
		{"a link that is no name", values(4, "5,,small,B1,,"), false},
		{"what was named is gone", func(b *impl.GateBook) {
			b.Objects = slices.Delete(b.Objects, 1, 2)
			b.Ledgers[3] = impl.GateLedger{Team: "ops", Resource: "room"}
		}, false},
		{"what was named is gone, and nothing names it", func(b *impl.GateBook) {
			b.Objects[3].Values[3] = ""
			b.Objects = slices.Delete(b.Objects, 1, 2)
			b.Ledgers[3] = impl.GateLedger{Team: "ops", Resource: "room"}
		}, true},
	})
	for i, text := range oddTexts() {
		for part, turn := range map[string]func(o *impl.GateObject){
			"Kind":  func(o *impl.GateObject) { o.Kind = text },
			"Team":  func(o *impl.GateObject) { o.Team = text },
			"value": func(o *impl.GateObject) { o.Values[2] = text },
			"link":  func(o *impl.GateObject) { o.Values[5] = text },
			"hold":  func(o *impl.GateObject) { o.Holds = []string{text} },
		} {
			b := sampleBook()
			turn(&b.Objects[4])
			if got, want := impl.GateBookOk(bookLaw(), b), saidBookOk(bookLaw(), b); got != want {
				t.Errorf("odd %s %d: %v", part, i, got)
			}
		}
	}
}

func TestBookGrants(t *testing.T) {
	set := func(place int, turn func(g *impl.GateGrant)) func(b *impl.GateBook) {
		return func(b *impl.GateBook) { turn(&b.Grants[place]) }
	}
	fill := func(size int) func(b *impl.GateBook) {
		return func(b *impl.GateBook) {
			b.Now, b.Given = 30, 30
			for len(b.Grants) < size {
				b.Grants = append(b.Grants, impl.GateGrant{Number: 4 + len(b.Grants), To: "ann", Rule: ruleOf("1 . . .")})
			}
		}
	}
	tryBooks(t, []bookCase{
		{"none", func(b *impl.GateBook) { b.Grants = nil }, true},
		{"24", fill(24), true},
		{"one more", fill(25), false},
		{"not in order", func(b *impl.GateBook) { b.Grants[0], b.Grants[1] = b.Grants[1], b.Grants[0] }, false},
		{"not in order, late", func(b *impl.GateBook) { b.Grants[1], b.Grants[2] = b.Grants[2], b.Grants[1] }, false},
		{"a Number twice", set(1, func(g *impl.GateGrant) { g.Number = 1 }), false},
		{"twice the same", func(b *impl.GateBook) { b.Grants[1] = b.Grants[0] }, false},
		{"one more than the last Number", set(1, func(g *impl.GateGrant) { g.Number = 2 }), true},
		{"Number 0", set(0, func(g *impl.GateGrant) { g.Number = 0 }), false},
		{"Number -1", set(0, func(g *impl.GateGrant) { g.Number = -1 }), false},
		{"Number Given", set(2, func(g *impl.GateGrant) { g.Number = 6 }), true},
		{"Number Given + 1", set(2, func(g *impl.GateGrant) { g.Number = 7 }), false},
		{"Number above every limit", set(2, func(g *impl.GateGrant) { g.Number = math.MaxInt }), false},
		{"To sixteen", set(0, func(g *impl.GateGrant) { g.To = strings.Repeat("n", 16) }), true},
		{"To seventeen", set(0, func(g *impl.GateGrant) { g.To = strings.Repeat("n", 17) }), false},
		{"To nobody", set(0, func(g *impl.GateGrant) { g.To = "" }), false},
		{"To no name", set(1, func(g *impl.GateGrant) { g.To = "Bob" }), false},
		{"By nobody", set(1, func(g *impl.GateGrant) { g.By = "" }), true},
		{"By somebody without a grant", set(1, func(g *impl.GateGrant) { g.By = "zoe" }), true},
		{"By themselves", set(1, func(g *impl.GateGrant) { g.By = "bob" }), true},
		{"By no name", set(1, func(g *impl.GateGrant) { g.By = "a b" }), false},
		{"By seventeen", set(1, func(g *impl.GateGrant) { g.By = strings.Repeat("n", 17) }), false},
		{"a Kind that no shape has", set(1, func(g *impl.GateGrant) { g.Rule.Kind = "ship" }), true},
		{"one and the same of two numbers", set(1, func(g *impl.GateGrant) { g.To, g.By, g.Rule = "ann", "", ruleOf("12345 . . .") }), true},
	})
	for name, r := range badRules() {
		for place := range 3 {
			b := sampleBook()
			b.Grants[place].Rule = r
			if impl.GateBookOk(bookLaw(), b) {
				t.Errorf("ok with the rule %s at %d", name, place)
			}
		}
	}
	for i, text := range oddTexts() {
		b := sampleBook()
		b.Grants[0].To = text
		if got := impl.GateBookOk(bookLaw(), b); got != nameForm.MatchString(text) {
			t.Errorf("odd To %d: %v", i, got)
		}
		b = sampleBook()
		b.Grants[2].By = text
		if got := impl.GateBookOk(bookLaw(), b); got != (text == "" || nameForm.MatchString(text)) {
			t.Errorf("odd By %d: %v", i, got)
		}
	}
}

func TestBookLedgers(t *testing.T) {
	set := func(place int, turn func(g *impl.GateLedger)) func(b *impl.GateBook) {
		return func(b *impl.GateBook) { turn(&b.Ledgers[place]) }
	}
	bound := func(place, free, most int) func(b *impl.GateBook) {
		return set(place, func(g *impl.GateLedger) { g.Free, g.Most = free, most })
	}
	add := func(place int, g impl.GateLedger) func(b *impl.GateBook) {
		return func(b *impl.GateBook) { b.Ledgers = slices.Insert(b.Ledgers, place, g) }
	}
	fill := func(size int) func(b *impl.GateBook) {
		return func(b *impl.GateBook) {
			for n := 0; len(b.Ledgers) < size; n++ {
				b.Ledgers = append(b.Ledgers, impl.GateLedger{Team: "sub", Resource: fmt.Sprintf("x%d", n), Most: n, Free: n})
			}
		}
	}
	tryBooks(t, []bookCase{
		{"none", func(b *impl.GateBook) { b.Ledgers, b.Purses = nil, nil }, true},
		{"none, but purses", func(b *impl.GateBook) { b.Ledgers = nil }, false},
		{"ten", fill(10), true},
		{"one more", fill(11), false},
		// Their order: by Team and then by Resource.
		{"two teams changed", func(b *impl.GateBook) { b.Ledgers[1], b.Ledgers[2] = b.Ledgers[2], b.Ledgers[1] }, false},
		{"two resources changed", func(b *impl.GateBook) { b.Ledgers[0], b.Ledgers[1] = b.Ledgers[1], b.Ledgers[0] }, false},
		{"by team, the resources falling", func(b *impl.GateBook) {
			b.Ledgers = []impl.GateLedger{{Team: "dev", Resource: "z"}, {Team: "lab", Resource: "y"}, {Team: "ops", Resource: "x"}}
			b.Purses = nil
		}, true},
		{"by resource, the teams falling", func(b *impl.GateBook) {
			b.Ledgers = []impl.GateLedger{{Team: "ops", Resource: "x"}, {Team: "lab", Resource: "y"}, {Team: "dev", Resource: "z"}}
			b.Purses = nil
		}, false},
		{"twice the same", add(2, impl.GateLedger{Team: "dev", Resource: "need", Free: 20, Most: 40}), false},
		{"twice the same that nothing is of", func(b *impl.GateBook) {
			b.Ledgers = slices.Repeat([]impl.GateLedger{{Team: "dev", Resource: "x"}}, 2)
			b.Purses = nil
		}, false},
		{"a resource that begins like the last", add(2, impl.GateLedger{Team: "dev", Resource: "needs"}), true},
		{"a resource that begins like the next", add(2, impl.GateLedger{Team: "dev", Resource: "nee"}), false},
		// Team, Resource.
		{"a resource that nothing is of", add(5, impl.GateLedger{Team: "pit", Resource: "x"}), true},
		{"a Team that is none of the law's", add(5, impl.GateLedger{Team: "pits", Resource: "x"}), false},
		{"no Team", add(0, impl.GateLedger{Resource: "x"}), false},
		{"a Team that is no name", add(0, impl.GateLedger{Team: "DEV", Resource: "x"}), false},
		{"no Resource", add(0, impl.GateLedger{Team: "dev"}), false},
		{"a Resource that is no name", add(5, impl.GateLedger{Team: "pit", Resource: "x!"}), false},
		{"a Resource of sixteen", add(5, impl.GateLedger{Team: "pit", Resource: strings.Repeat("x", 16)}), true},
		{"a Resource of seventeen", add(5, impl.GateLedger{Team: "pit", Resource: strings.Repeat("x", 17)}), false},
		// Free and Most.
		{"nothing of nothing", add(5, impl.GateLedger{Team: "sub", Resource: "vol"}), true},
		{"Most at its limit", bound(1, 1000000-20, 1000000), true},
		{"Most one beyond", bound(1, 1000001-20, 1000001), false},
		{"Most at its limit, of what nothing is of", add(5, impl.GateLedger{Team: "pit", Resource: "x", Free: 1000000, Most: 1000000}), true},
		{"Most one beyond, of what nothing is of", add(5, impl.GateLedger{Team: "pit", Resource: "x", Free: 1000001, Most: 1000001}), false},
		{"Free 0", bound(1, 0, 20), true},
		{"Free below 0", bound(1, -1, 19), false},
		{"Free above Most", add(5, impl.GateLedger{Team: "pit", Resource: "x", Free: 1}), false},
		{"Most below 0", add(5, impl.GateLedger{Team: "pit", Resource: "x", Free: -1, Most: -1}), false},
		{"Free above every limit", bound(1, math.MaxInt, 40), false},
		{"Free below every limit", bound(1, math.MinInt, 40), false},
		{"Most above every limit", bound(1, 20, math.MaxInt), false},
		{"both above every limit", bound(1, math.MaxInt, math.MaxInt), false},
		// Sums.
		{"Free one too many", bound(1, 21, 40), false},
		{"Free one too few", bound(1, 19, 40), false},
		{"Most one too many", bound(1, 20, 41), false},
		{"Most one too few", bound(1, 20, 39), false},
		{"both one more", bound(1, 21, 41), true},
		{"the last one's Free one too many", bound(4, 1, 100), false},
		{"the last one's Most one too few", bound(4, 0, 99), false},
		{"Most below what is used", add(5, impl.GateLedger{Team: "sea", Resource: "job"}), false},
		{"Most what is used", add(5, impl.GateLedger{Team: "sea", Resource: "job", Most: 1}), true},
		{"one purse one more", func(b *impl.GateBook) { b.Purses[2].Amount++ }, false},
		{"one purse one less", func(b *impl.GateBook) { b.Purses[2].Amount-- }, false},
		{"one purse one more, one that is not of it less", func(b *impl.GateBook) { b.Purses[0].Amount++; b.Ledgers[2].Free-- }, false},
		{"one purse one more, one of it less", func(b *impl.GateBook) { b.Purses[0].Amount++; b.Purses[2].Amount-- }, true},
		{"a purse back in Free", func(b *impl.GateBook) { b.Purses = b.Purses[1:]; b.Ledgers[1].Free += 6 }, true},
		{"an object one heavier, in a team far under it", func(b *impl.GateBook) { b.Objects[3].Values[0] = "2" }, false},
		{"an object one heavier, Free one less", func(b *impl.GateBook) { b.Objects[3].Values[0] = "2"; b.Ledgers[1].Free--; b.Ledgers[2].Free-- }, true},
		{"an object one heavier, Free one less of the team over it alone", func(b *impl.GateBook) { b.Objects[3].Values[0] = "2"; b.Ledgers[1].Free-- }, false},
		{"an object of a team that no ledger bounds", func(b *impl.GateBook) { b.Objects[4].Values[0] = "6" }, true},
	})
}

func TestBookPurses(t *testing.T) {
	set := func(place int, turn func(p *impl.GatePurse)) func(b *impl.GateBook) {
		return func(b *impl.GateBook) { turn(&b.Purses[place]) }
	}
	until := func(place, tick int) func(b *impl.GateBook) {
		return set(place, func(p *impl.GatePurse) { p.Until = tick })
	}
	// What a purse has more or less, the ledger of dev and need has the other way.
	amount := func(amount int) func(b *impl.GateBook) {
		return func(b *impl.GateBook) {
			b.Ledgers[1].Free += b.Purses[0].Amount - amount
			b.Purses[0].Amount = amount
		}
	}
	fill := func(size int) func(b *impl.GateBook) {
		return func(b *impl.GateBook) {
			for n := 0; len(b.Purses) < size; n++ {
				b.Purses = append(b.Purses, impl.GatePurse{Door: fmt.Sprintf("e%02d", n), Team: "dev", Resource: "need", Amount: 1, Until: 9})
				b.Ledgers[1].Most++
			}
		}
	}
	tryBooks(t, []bookCase{
		{"none", func(b *impl.GateBook) {
			b.Purses = nil
			b.Ledgers[1].Free += 9
			b.Ledgers[2].Free++
			b.Ledgers[4].Free = 95
		}, true},
		{"24", fill(24), true},
		{"one more", fill(25), false},
		// Their order: by Door, then Team, then Resource.
		{"two doors changed", func(b *impl.GateBook) { b.Purses[1], b.Purses[2] = b.Purses[2], b.Purses[1] }, false},
		{"two teams changed", func(b *impl.GateBook) { b.Purses[0], b.Purses[1] = b.Purses[1], b.Purses[0] }, false},
		{"two resources in order", func(b *impl.GateBook) {
			b.Ledgers[0].Most = 3
			b.Purses = slices.Insert(b.Purses, 0, impl.GatePurse{Door: "d1", Team: "dev", Resource: "job", Amount: 1, Until: 7})
		}, true},
		{"two resources changed", func(b *impl.GateBook) {
			b.Ledgers[0].Most = 3
			b.Purses = slices.Insert(b.Purses, 1, impl.GatePurse{Door: "d1", Team: "dev", Resource: "job", Amount: 1, Until: 7})
		}, false},
		{"twice the same", func(b *impl.GateBook) { b.Purses = slices.Insert(b.Purses, 0, b.Purses[0]); b.Ledgers[1].Most += 6 }, false},
		{"twice the same door, team and resource", func(b *impl.GateBook) {
			b.Purses = slices.Insert(b.Purses, 0, impl.GatePurse{Door: "d1", Team: "dev", Resource: "need", Amount: 2, Until: 9})
			b.Ledgers[1].Most += 2
		}, false},
		// Door.
		{"a Door of sixteen", set(3, func(p *impl.GatePurse) { p.Door = "d234567890123456" }), true},
		{"a Door of seventeen", set(3, func(p *impl.GatePurse) { p.Door = "d2345678901234567" }), false},
		{"a Door that is no name", set(3, func(p *impl.GatePurse) { p.Door = "d2 " }), false},
		{"no Door", set(0, func(p *impl.GatePurse) { p.Door = "" }), false},
		// A ledger of Team and Resource.
		{"no ledger of the Team", func(b *impl.GateBook) {
			b.Purses = append(b.Purses, impl.GatePurse{Door: "d3", Team: "ops", Resource: "need", Amount: 1, Until: 9})
		}, false},
		{"no ledger of the Resource", func(b *impl.GateBook) {
			b.Purses = append(b.Purses, impl.GatePurse{Door: "d3", Team: "dev", Resource: "vol", Amount: 1, Until: 9})
		}, false},
		{"no ledger of a Team under one that has one", func(b *impl.GateBook) {
			b.Purses = append(b.Purses, impl.GatePurse{Door: "d3", Team: "sea", Resource: "need", Amount: 1, Until: 9})
		}, false},
		{"nothing as Team and Resource", func(b *impl.GateBook) { b.Purses = append(b.Purses, impl.GatePurse{Door: "d3", Amount: 1, Until: 9}) }, false},
		// Amount.
		{"Amount 1", amount(1), true},
		{"Amount 0", amount(0), false},
		{"Amount -1", amount(-1), false},
		{"Amount all that was free", amount(26), true},
		{"Amount one beyond", amount(27), false},
		{"Amount at its limit", func(b *impl.GateBook) {
			*b = impl.GateBook{Ledgers: []impl.GateLedger{{Team: "dev", Resource: "x", Most: 1000000}}, Purses: []impl.GatePurse{{Door: "d", Team: "dev", Resource: "x", Amount: 1000000}}}
		}, true},
		{"Amount one beyond its limit", func(b *impl.GateBook) {
			*b = impl.GateBook{Ledgers: []impl.GateLedger{{Team: "dev", Resource: "x", Most: 1000000}}, Purses: []impl.GatePurse{{Door: "d", Team: "dev", Resource: "x", Amount: 1000001}}}
		}, false},
		{"Amounts that go round", func(b *impl.GateBook) {
			*b = impl.GateBook{Ledgers: []impl.GateLedger{{Team: "dev", Resource: "x", Most: 2, Free: 1}}, Purses: []impl.GatePurse{
				{Door: "d", Team: "dev", Resource: "x", Amount: math.MaxInt}, {Door: "e", Team: "dev", Resource: "x", Amount: math.MaxInt}, {Door: "f", Team: "dev", Resource: "x", Amount: 3}}}
		}, false},
		// Until.
		{"Until Tick", until(1, 7), true},
		{"Until one below Tick", until(1, 6), false},
		{"Until Tick + GatePurseLife", until(0, 17), true},
		{"Until one beyond", until(0, 18), false},
		{"Until 0", until(0, 0), false},
		{"Until below every limit", until(0, math.MinInt), false},
		{"Until above every limit", until(0, math.MaxInt), false},
		{"the last one's Until one beyond", until(3, 18), false},
	})
	late := impl.GateBook{Tick: 1000000, Ledgers: []impl.GateLedger{{Team: "dev", Resource: "x", Most: 1}}, Purses: []impl.GatePurse{{Door: "d", Team: "dev", Resource: "x", Amount: 1, Until: 1000010}}}
	if !impl.GateBookOk(bookLaw(), late) {
		t.Error("a purse lasts beyond the last tick")
	}
	late.Purses[0].Until++
	if impl.GateBookOk(bookLaw(), late) {
		t.Error("a purse lasts too long, beyond the last tick")
	}
}

func TestBookMemory(t *testing.T) {
	l, b := withRoom(bookLaw()), withRoom(sampleBook())
	args := []any{l, b}
	ownMemory(t, "GateLawOk", args, func() any { return impl.GateLawOk(l) })
	ownMemory(t, "GateBookOk", args, func() any { return impl.GateBookOk(l, b) })
	ownMemory(t, "GateUsed", args, func() any { return impl.GateUsed(l, b, "dev", "need") })
	ownMemory(t, "GateWeighs", args, func() any { return impl.GateWeighs(l, b.Objects[2], "need") })
	b.Objects[0].Values[1] = ""
	ownMemory(t, "GateBookOk of a book that is not", args, func() any { return impl.GateBookOk(l, b) })
}
