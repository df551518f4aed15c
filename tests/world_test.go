package tests

import (
	"fmt"
	"math"
	"slices"
	"strings"
	"testing"

	"loop.example/wharfgate/impl"
)

// slipOf is a slip of a door and an ask, with Given and wants.
func slipOf(ask string, given int, wants string) impl.GateSlip {
	return commitCase{ask: ask, given: given, wants: wants}.slip()
}

// stepWorld is ok by passLaw: d1 sees the book ahead of its last version and has three slips of that, d2 sees it as it is, d3 is not up, d4 has seen nothing and has as many slips as it may.
func stepWorld() impl.GateWorld {
	book := passBook()
	book.Now = 31
	book.Objects = slices.Insert(book.Objects, 7, objectOf("mark m2 ops 31 ."))
	return impl.GateWorld{Book: book, Doors: []impl.GateDoor{
		{Name: "d1", Up: true, View: passBook(), Slips: []impl.GateSlip{
			slipOf("d1 ann make mark m2 ops . +h", 16, "mark m2 0"), slipOf("d1 ann change job j1 5 4,small,b1,j5,,v1", 16, "job j1 5, job j5 7"), slipOf("d1 ann give zoe 1 job . .", 16, ""),
		}},
		{Name: "d2", Up: true, View: withRoom(book)},
		{Name: "d3", View: passBook()},
		{Name: "d4", Up: true, Slips: []impl.GateSlip{
			slipOf("d4 ann end mark m1 8", 16, "mark m1 8"), slipOf("d4 zoe take 4", 16, ""), slipOf("d4 ann make vol v3 pit 1,,", 16, "vol v3 0"),
			slipOf("d4 ann letgo job j1 x", 16, ""), slipOf("d4 ann end job j1 9", 16, "job j1 5"), slipOf("d4 ann take 4", 15, ""),
		}},
	}}
}

// askLine tells an ask as askOf reads it.
func askLine(a impl.GateAsk) string {
	words := []string{dotted(a.Who), append([]string{"make", "change", "end", "letgo", "give", "take"}, "none")[min(max(a.Verb-1, 0), 6)]}
	values := dotted(strings.Join(a.Values, ","))
	switch a.Verb {
	case 1:
		words = append(words, a.Kind, a.Name, a.Team, values)
		for _, hold := range a.Holds {
			words = append(words, "+"+hold)
		}
	case 2:
		words = append(words, a.Kind, a.Name, fmt.Sprint(a.Seen), values)
	case 3:
		words = append(words, a.Kind, a.Name, fmt.Sprint(a.Seen))
	case 4:
		words = append(words, a.Kind, a.Name, a.Hold)
	case 5:
		words = append(words, a.To, ruleLine(a.Rule))
	case 6:
		words = append(words, fmt.Sprint(a.Number))
	}
	return strings.Join(words, " ")
}

// worldLines tells a world, a thing a line: the book's as they are, a door's with its name ahead.
func worldLines(w impl.GateWorld) []string {
	book := func(b impl.GateBook) []string { return append(linesOf(b)[:1], allLinesOf(b)...) }
	lines := book(w.Book)
	for _, d := range w.Doors {
		lines = append(lines, d.Name+map[bool]string{true: " is up", false: " is dead"}[d.Up])
		for _, line := range book(d.View) {
			lines = append(lines, d.Name+" sees "+line)
		}
		for _, s := range d.Slips {
			lines = append(lines, strings.TrimRight(fmt.Sprintf("%s has %s %s given %d wants %s", d.Name, s.Door, askLine(s.Ask), s.Given, wantsText(s.Wants)), " "))
		}
	}
	return lines
}

func worldText(w impl.GateWorld) string {
	return "\n  " + strings.Join(worldLines(w), "\n  ")
}

// doorsOf is doors of these names that are up, and see a book.
func doorsOf(view impl.GateBook, names ...string) []impl.GateDoor {
	var out []impl.GateDoor
	for _, name := range names {
		out = append(out, impl.GateDoor{Name: name, Up: true, View: withRoom(view)})
	}
	return out
}

// worldCase is something done to stepWorld, and whether it is ok then.
type worldCase struct {
	what string
	turn func(w *impl.GateWorld)
	ok   bool
}

func worldCases() []worldCase {
	long, tooLong := strings.Repeat("n", 16), strings.Repeat("n", 17)
	return []worldCase{
		{"as it is", func(w *impl.GateWorld) {}, true},
		{"nothing", func(w *impl.GateWorld) { *w = impl.GateWorld{} }, true},
		{"no doors", func(w *impl.GateWorld) { w.Doors = nil }, true},
		{"an empty list of doors", func(w *impl.GateWorld) { w.Doors = []impl.GateDoor{} }, true},
		// The Book.
		{"a Book with a fault", func(w *impl.GateWorld) { w.Book.Ledgers[0].Free++ }, false},
		{"a Book of nothing, views at Now 0", func(w *impl.GateWorld) { w.Book, w.Doors = impl.GateBook{}, doorsOf(impl.GateBook{}, "d1", "d2") }, true},
		{"a Book of nothing, views beyond it", func(w *impl.GateWorld) { w.Book = impl.GateBook{} }, false},
		{"a Book with a fault and no doors", func(w *impl.GateWorld) { w.Book.Now, w.Doors = 1000001, nil }, false},
		// How many doors, and their order.
		{"one door", func(w *impl.GateWorld) { w.Doors = w.Doors[:1] }, true},
		{"GateMaxDoors", func(w *impl.GateWorld) { w.Doors = doorsOf(passBook(), "a", "b", "c", "d") }, true},
		{"one door too many", func(w *impl.GateWorld) { w.Doors = doorsOf(passBook(), "a", "b", "c", "d", "e") }, false},
		{"one dead door too many", func(w *impl.GateWorld) { w.Doors = append(w.Doors, impl.GateDoor{Name: "d5"}) }, false},
		{"doors not in order", func(w *impl.GateWorld) { w.Doors[0], w.Doors[1] = w.Doors[1], w.Doors[0] }, false},
		{"the last two not in order", func(w *impl.GateWorld) { w.Doors[2], w.Doors[3] = w.Doors[3], w.Doors[2] }, false},
		{"two doors of one Name", func(w *impl.GateWorld) { w.Doors = doorsOf(passBook(), "a", "a") }, false},
		{"the last two of one Name", func(w *impl.GateWorld) { w.Doors[2].Name = "d4" }, false},
		{"a Name that begins another", func(w *impl.GateWorld) { w.Doors = doorsOf(passBook(), "a", "a-", "a0", "aa") }, true},
		{"the longer one ahead", func(w *impl.GateWorld) { w.Doors = doorsOf(passBook(), "aa", "a") }, false},
		{"byte by byte", func(w *impl.GateWorld) { w.Doors = doorsOf(passBook(), "-", "10", "9", "a") }, true},
		{"as numbers, not byte by byte", func(w *impl.GateWorld) { w.Doors = doorsOf(passBook(), "9", "10") }, false},
		// Names.
		{"a Name of sixteen", func(w *impl.GateWorld) { w.Doors[3].Name, w.Doors[3].Slips = long, nil }, true},
		{"a Name of seventeen", func(w *impl.GateWorld) { w.Doors[3].Name, w.Doors[3].Slips = tooLong, nil }, false},
		{"a door without a Name", func(w *impl.GateWorld) { w.Doors[0].Name, w.Doors[0].Slips = "", nil }, false},
		{"a Name that is none", func(w *impl.GateWorld) { w.Doors[2].Name = "d2!" }, false},
		{"the last Name that is none", func(w *impl.GateWorld) { w.Doors[3].Name, w.Doors[3].Slips = "d4_", nil }, false},
		{"the one door's Name that is none", func(w *impl.GateWorld) { w.Doors = doorsOf(passBook(), "D") }, false},
		{"Names that no purse has", func(w *impl.GateWorld) { w.Doors = doorsOf(passBook(), "x", "y") }, true},
		// Views.
		{"a View with a fault", func(w *impl.GateWorld) { w.Doors[0].View.Ledgers[0].Free++ }, false},
		{"the last View with a fault", func(w *impl.GateWorld) { w.Doors[3].View.Tick = -1 }, false},
		{"a dead door's View with a fault", func(w *impl.GateWorld) { w.Doors[2].View.Objects[0].Version = 0 }, false},
		{"a View of nothing", func(w *impl.GateWorld) { w.Doors[0].View = impl.GateBook{} }, true},
		{"a View's Now at the Book's", func(w *impl.GateWorld) { w.Doors[0].View.Now = 31 }, true},
		{"a View's Now one beyond it", func(w *impl.GateWorld) { w.Doors[0].View.Now = 32 }, false},
		{"the last View's Now at the Book's", func(w *impl.GateWorld) { w.Doors[3].View.Now = 31 }, true},
		{"the last View's Now one beyond it", func(w *impl.GateWorld) { w.Doors[3].View.Now = 32 }, false},
		{"a dead door's View's Now one beyond it", func(w *impl.GateWorld) { w.Doors[2].View.Now = 32 }, false},
		{"the Book's Now one before a View's", func(w *impl.GateWorld) { w.Doors = doorsOf(w.Book, "a"); w.Book = passBook() }, false},
		{"a View's Now at GateMaxVersion", func(w *impl.GateWorld) { w.Doors[0].View.Now, w.Book.Now = 1000000, 1000000 }, true},
		{"a View's Now at GateMaxVersion, the Book's below", func(w *impl.GateWorld) { w.Doors[0].View.Now, w.Book.Now = 1000000, 999999 }, false},
		{"a View's Tick beyond the Book's", func(w *impl.GateWorld) { w.Doors[3].View.Tick = 1000000 }, true},
		{"a View's Given beyond the Book's", func(w *impl.GateWorld) { w.Doors[0].View.Given = 30 }, true},
		{"a View that the Book never was", func(w *impl.GateWorld) {
			w.Doors[0].View = bookOf("now 31 tick 0 given 31\n grant 31 zoe zoe 12345 . . .")
		}, true},
		// Slips.
		{"no slips", func(w *impl.GateWorld) { w.Doors[0].Slips = nil }, true},
		{"an empty list of slips", func(w *impl.GateWorld) { w.Doors[0].Slips = []impl.GateSlip{} }, true},
		{"GateMaxSlips", func(w *impl.GateWorld) { w.Doors[0].Slips = slices.Repeat(w.Doors[0].Slips, 2) }, true},
		{"one slip too many", func(w *impl.GateWorld) { w.Doors[0].Slips = slices.Repeat(w.Doors[0].Slips[:1], 7) }, false},
		{"the last door's slips, one too many", func(w *impl.GateWorld) { w.Doors[3].Slips = append(w.Doors[3].Slips, w.Doors[3].Slips[0]) }, false},
		{"the first slip with a fault", func(w *impl.GateWorld) { w.Doors[0].Slips[0].Given = -1 }, false},
		{"the last slip with a fault", func(w *impl.GateWorld) { w.Doors[3].Slips[5].Ask.Number = 0 }, false},
		{"a slip with nine wants", func(w *impl.GateWorld) { w.Doors[0].Slips[1].Wants = make([]impl.GateWant, 9) }, false},
		{"a slip of nothing", func(w *impl.GateWorld) { w.Doors[1].Slips = []impl.GateSlip{{}} }, false},
		{"a slip of nothing but the door's Name", func(w *impl.GateWorld) { w.Doors[1].Slips = []impl.GateSlip{{Door: "d2"}} }, false},
		{"a slip with another door's Name", func(w *impl.GateWorld) { w.Doors[0].Slips[0].Door = "d2" }, false},
		{"the last slip with another door's Name", func(w *impl.GateWorld) { w.Doors[3].Slips[5].Door = "d1" }, false},
		{"a slip with a Name that no door has", func(w *impl.GateWorld) { w.Doors[0].Slips[2].Door = "d9" }, false},
		{"a door with another Name than its slips", func(w *impl.GateWorld) { w.Doors[3].Name = "d5" }, false},
		{"a slip of what no view let pass", func(w *impl.GateWorld) {
			w.Doors[1].Slips = []impl.GateSlip{slipOf("d2 nobody end job none 9", math.MaxInt, "zone z 77")}
		}, true},
		// Up.
		{"not up, without slips", func(w *impl.GateWorld) { w.Doors[1].Up = false }, true},
		{"none up, without slips", func(w *impl.GateWorld) {
			for i := range w.Doors {
				w.Doors[i].Up, w.Doors[i].Slips = false, nil
			}
		}, true},
		{"not up, with an empty list of slips", func(w *impl.GateWorld) { w.Doors[2].Slips = []impl.GateSlip{} }, true},
		{"not up, with a slip", func(w *impl.GateWorld) { w.Doors[2].Slips = []impl.GateSlip{slipOf("d3 ann take 4", 16, "")} }, false},
		{"up, with that slip", func(w *impl.GateWorld) {
			w.Doors[2].Up, w.Doors[2].Slips = true, []impl.GateSlip{slipOf("d3 ann take 4", 16, "")}
		}, true},
		{"no longer up, with slips", func(w *impl.GateWorld) { w.Doors[0].Up = false }, false},
		{"the last no longer up, with slips", func(w *impl.GateWorld) { w.Doors[3].Up = false }, false},
		{"not up, with a slip that is none", func(w *impl.GateWorld) { w.Doors[2].Slips = []impl.GateSlip{{}} }, false},
	}
}

func TestWorldOk(t *testing.T) {
	for _, c := range worldCases() {
		w := stepWorld()
		c.turn(&w)
		if got := impl.GateWorldOk(passLaw(), w); got != c.ok {
			t.Errorf("%s: %v", c.what, got)
		}
		if saidWorldOk(passLaw(), w) != c.ok {
			t.Errorf("%s: the document says %v", c.what, !c.ok)
		}
		// The two other functions see it likewise.
		first := w.Book
		if !c.ok {
			first = passBook()
		}
		if got := impl.GateSafe(passLaw(), first, w); got != c.ok {
			t.Errorf("%s: safe: %v", c.what, got)
		}
		for kind := range 13 {
			got, said := impl.GateStep(passLaw(), w, impl.GateEvent{Kind: kind, Ask: askOf("ann take 4"), Team: "dev", Resource: "need", Amount: 1})
			if (said.Code == 1) == c.ok || !c.ok && (said != impl.GateSaid{Code: 1} || !same(got, impl.GateWorld{})) {
				t.Errorf("%s: event %d: %+v %s", c.what, kind, said, worldText(got))
			}
		}
	}
}

// sampleWorld is ok by bookLaw: its views are like its Book.
func sampleWorld() impl.GateWorld {
	doors := doorsOf(sampleBook(), "d1", "d2", "d3")
	doors[2].Up = false
	doors[0].Slips = []impl.GateSlip{slipOf("d1 ann end vol v1 0", 6, "vol v1 1")}
	return impl.GateWorld{Book: sampleBook(), Doors: doors}
}

// allEvents is one of each kind that a sampleWorld lets happen; what is no event stands at 0 and behind the last.
func allEvents() []impl.GateEvent {
	out := make([]impl.GateEvent, 13)
	for kind := range out {
		out[kind] = impl.GateEvent{Kind: kind, Ask: askOf("ann end vol v1 0"), Team: "dev", Resource: "need", Amount: 1}
	}
	out[impl.GateRises].Door = 2
	out[impl.GateBinds].Amount = 50
	return out
}

func TestWorldNotOk(t *testing.T) {
	isNone := func(what string, l impl.GateLaw, w impl.GateWorld) {
		t.Helper()
		if impl.GateWorldOk(l, w) || impl.GateSafe(l, sampleBook(), w) || impl.GateSafe(l, impl.GateBook{}, w) {
			t.Errorf("%s: ok or safe", what)
		}
		for _, e := range allEvents() {
			if got, said := impl.GateStep(l, w, e); said != (impl.GateSaid{Code: 1}) || !same(got, impl.GateWorld{}) {
				t.Errorf("%s: event %d: %+v %s", what, e.Kind, said, worldText(got))
			}
		}
	}
	if !impl.GateWorldOk(bookLaw(), sampleWorld()) || !impl.GateSafe(bookLaw(), sampleBook(), sampleWorld()) {
		t.Fatal("the sample is not ok")
	}
	for _, e := range allEvents()[1:12] {
		if _, said := impl.GateStep(bookLaw(), sampleWorld(), e); said.Code != 0 && e.Kind != impl.GateSweeps {
			t.Errorf("event %d: %+v", e.Kind, said)
		}
	}
	for name, b := range badBooks() {
		w := sampleWorld()
		w.Book = b
		isNone("a Book with a fault: "+name, bookLaw(), w)
		isNone("without doors, a Book with a fault: "+name, bookLaw(), impl.GateWorld{Book: b})
		for place := range w.Doors {
			w := sampleWorld()
			w.Book.Now = 1000000
			w.Doors[place].View = b
			isNone(fmt.Sprintf("View %d with a fault: %s", place, name), bookLaw(), w)
		}
	}
	for name, l := range badLaws() {
		isNone("a law with a fault: "+name, l, sampleWorld())
		isNone("a world of nothing, a law with a fault: "+name, l, impl.GateWorld{})
	}
	isNone("a law of nothing", impl.GateLaw{}, sampleWorld())
	if !impl.GateWorldOk(impl.GateLaw{}, impl.GateWorld{}) || !impl.GateWorldOk(impl.GateLaw{}, impl.GateWorld{Doors: doorsOf(impl.GateBook{}, "a")}) {
		t.Error("a law of nothing has worlds too")
	}
}

func TestWorldOddTexts(t *testing.T) {
	for i, text := range oddTexts() {
		isName := nameForm.MatchString(text)
		w := impl.GateWorld{Book: passBook(), Doors: doorsOf(passBook(), text)}
		if got := impl.GateWorldOk(passLaw(), w); got != isName {
			t.Errorf("odd text %d as a Name: %v", i, got)
		}
		if got := impl.GateSafe(passLaw(), passBook(), w); got != isName {
			t.Errorf("odd text %d as a Name: safe: %v", i, got)
		}
		w.Doors[0].Slips = []impl.GateSlip{slipOf("d ann take 4", 16, "")}
		w.Doors[0].Slips[0].Door = text
		if got := impl.GateWorldOk(passLaw(), w); got != isName {
			t.Errorf("odd text %d as a Name and a slip's Door: %v", i, got)
		}
		w.Doors[0].Name = "d"
		if impl.GateWorldOk(passLaw(), w) {
			t.Errorf("odd text %d as a slip's Door, of another door", i)
		}
		w.Doors[0].Slips[0] = slipOf("d ann take 4", 16, "job j1 5")
		w.Doors[0].Slips[0].Wants[0].Name = text
		if got := impl.GateWorldOk(passLaw(), w); got != isName {
			t.Errorf("odd text %d as a want's Name: %v", i, got)
		}
		w.Doors[0].Slips[0].Wants, w.Doors[0].Slips[0].Ask.Who = nil, text
		if got := impl.GateWorldOk(passLaw(), w); got != isName {
			t.Errorf("odd text %d as an ask's Who: %v", i, got)
		}
		w = impl.GateWorld{Book: passBook()}
		w.Book.Grants[6].To = text
		if got := impl.GateSafe(passLaw(), passBook(), w); got != isName {
			t.Errorf("odd text %d as a grant's To: safe: %v", i, got)
		}
		if got := impl.GateSafe(passLaw(), w.Book, impl.GateWorld{}); got != isName {
			t.Errorf("odd text %d as a first grant's To: safe: %v", i, got)
		}
	}
}

// grantsOf is a book of grants, a rule each, "; " between them.
func grantsOf(text string) impl.GateBook {
	b := impl.GateBook{Now: 9, Given: 9}
	for i, r := range rulesOf(text) {
		b.Grants = append(b.Grants, impl.GateGrant{Number: i + 1, To: []string{"ann", "bob", "cy"}[i%3], By: []string{"", "ann", "zoe"}[i%3], Rule: r})
	}
	return b
}

func TestSafe(t *testing.T) {
	for _, c := range []struct {
		first, grants string
		safe          bool
	}{
		// No grants, on either side.
		{"", "", true}, {"12345 . . .", "", true}, {"", "1 job lab j", false}, {"", "12345 . . .", false},
		// The same, less, more, of verbs, kind, team and prefix.
		{"12 job lab j", "12 job lab j", true}, {"12 job lab j", "1 job lab j", true}, {"12 job lab j", "12 job pit j", true}, {"12 job lab j", "12 job lab jj", true},
		{"12 job lab j", "123 job lab j", false}, {"12 job lab j", "12 . lab j", false}, {"12 job lab j", "12 vol lab j", false}, {"12 job lab j", "12 job . j", false},
		{"12 job lab j", "12 job dev j", false}, {"12 job lab j", "12 job ops j", false}, {"12 job lab j", "12 job lab .", false}, {"12 job lab j", "12 job lab k", false}, {"12 job . .", "5 job . .", false},
		{"12345 . . .", "12345 . . .", true}, {"12345 . . .", "12345 none nowhere nn", true}, {"12345 . dev .", "1 job pit j; 5 . lab .; 234 vol dev v", true}, {"12345 . dev .", "1 job pit j; 5 . lab .; 234 vol ops v", false},
		// Together, and none alone; all but one verb.
		{"1 job . .; 2 . lab .; 3 . . j", "123 job lab j", true}, {"1 job . .; 2 . lab .", "123 job lab j", false}, {"1 job . .; 2 . lab .; 3 . . k", "123 job lab j", false}, {"12 . . .; 345 . . .", "12345 . . .", true},
		// What is covered by no one rule of its verb is not covered, though each act may be.
		{"1 job dev .; 1 job ops .", "1 job . .", false}, {"1 berth . .; 1 job . .; 1 mark . .; 1 vol . .", "1 . . .", false},
		// The first, a middle and the last one of several are not covered.
		{"1 . . .", "2 . . .; 1 . . .; 1 . . .", false}, {"1 . . .", "1 . . .; 2 . . .; 1 . . .", false}, {"1 . . .", "1 . . .; 1 . . .; 2 . . .", false}, {"1 . . .", "1 . . .; 1 . . .; 1 . . .; 1 job lab j", true},
	} {
		first, w := grantsOf(c.first), impl.GateWorld{Book: grantsOf(c.grants), Doors: doorsOf(impl.GateBook{}, "d")}
		if got := impl.GateSafe(passLaw(), first, w); got != c.safe {
			t.Errorf("%s of %s: %v", c.grants, c.first, got)
		}
		if saidSafe(passLaw(), first, w) != c.safe {
			t.Errorf("%s of %s: the document says %v", c.grants, c.first, !c.safe)
		}
	}
}

// What is not asked of safety: who has what, by whom, what views and slips say, and whether first was ever the Book.
func TestSafeAsksOfRulesAlone(t *testing.T) {
	first := grantsOf("12 job lab .")
	for what, turn := range map[string]func(first *impl.GateBook, w *impl.GateWorld){
		"as it is":                      func(first *impl.GateBook, w *impl.GateWorld) {},
		"to another one":                func(first *impl.GateBook, w *impl.GateWorld) { w.Book.Grants[0].To = "zoe" },
		"by another one":                func(first *impl.GateBook, w *impl.GateWorld) { w.Book.Grants[0].By = "zoe" },
		"with another number":           func(first *impl.GateBook, w *impl.GateWorld) { w.Book.Grants[0].Number = 9 },
		"a view in which there is more": func(first *impl.GateBook, w *impl.GateWorld) { w.Doors[0].View = grantsOf("12345 . . .") },
		"a dead door's view": func(first *impl.GateBook, w *impl.GateWorld) {
			w.Doors[0].View, w.Doors[0].Up = grantsOf("5 . . ."), false
		},
		"a slip that gives more": func(first *impl.GateBook, w *impl.GateWorld) {
			w.Doors[0].Slips = []impl.GateSlip{slipOf("d ann give zoe 12345 . . .", 9, "")}
		},
		"first is later": func(first *impl.GateBook, w *impl.GateWorld) {
			first.Now, first.Given, first.Tick = 1000000, 1000000, 77
		},
		"first has objects and ledgers": func(first *impl.GateBook, w *impl.GateWorld) {
			rules := first.Grants
			*first = passBook()
			first.Grants = rules
		},
		"the Book has objects and purses": func(first *impl.GateBook, w *impl.GateWorld) {
			rules := w.Book.Grants
			w.Book = passBook()
			w.Book.Grants = rules
		},
	} {
		first, w := withRoom(first), impl.GateWorld{Book: withRoom(first), Doors: doorsOf(impl.GateBook{}, "d")}
		turn(&first, &w)
		if !impl.GateSafe(passLaw(), first, w) {
			t.Errorf("%s: not safe", what)
		}
	}
	// By teams that the law does not have, and in a world without any.
	if !impl.GateSafe(impl.GateLaw{}, grantsOf("1 . x ."), impl.GateWorld{Book: grantsOf("1 job x j")}) || impl.GateSafe(impl.GateLaw{}, grantsOf("1 . dev ."), impl.GateWorld{Book: grantsOf("1 . lab .")}) {
		t.Error("by a law of nothing")
	}
	if !impl.GateSafe(passLaw(), grantsOf("1 . dev ."), impl.GateWorld{Book: grantsOf("1 . lab .")}) {
		t.Error("lab stands in dev")
	}
}

func TestSafeNotOk(t *testing.T) {
	for name, b := range badBooks() {
		for what, w := range map[string]impl.GateWorld{"the sample": sampleWorld(), "nothing": {}} {
			if impl.GateSafe(bookLaw(), b, w) {
				t.Errorf("first with a fault: %s, the world is %s", name, what)
			}
		}
	}
	for name, l := range badLaws() {
		if impl.GateSafe(l, impl.GateBook{}, impl.GateWorld{}) || impl.GateSafe(l, sampleBook(), sampleWorld()) {
			t.Errorf("a law with a fault: %s", name)
		}
	}
	if !impl.GateSafe(bookLaw(), sampleBook(), impl.GateWorld{}) || !impl.GateSafe(impl.GateLaw{}, impl.GateBook{}, impl.GateWorld{}) {
		t.Error("a world of nothing is safe")
	}
}
