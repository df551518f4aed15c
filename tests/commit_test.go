package tests

import (
	"math"
	"slices"
	"strings"
	"testing"

	"loop.example/wharfgate/impl"
)

// commitCase is a slip (a door and an ask, Given, wants), what is said ("CODE PLACE VERSION"), and which lines of the book change.
type commitCase struct {
	ask     string
	given   int
	wants   string
	said    string
	changes string
}

func (c commitCase) slip() impl.GateSlip {
	door, text, _ := strings.Cut(c.ask, " ")
	return impl.GateSlip{Door: door, Ask: askOf(text), Given: c.given, Wants: wantsOf(c.wants)}
}

// tryCommits also asks that the book is nothing with 1 and 2, as it was with the other codes, and else what asking the book itself gives.
func tryCommits(t *testing.T, l impl.GateLaw, b impl.GateBook, cases []commitCase) {
	t.Helper()
	for _, c := range cases {
		s := c.slip()
		got, said := impl.GateCommit(l, b, s)
		if saidText(said) != c.said {
			t.Errorf("%s given %d wants %s: %s, not %s", c.ask, c.given, c.wants, saidText(said), c.said)
			continue
		}
		want := b
		switch said.Code {
		case 1, 2:
			want = impl.GateBook{}
		case 12:
		default:
			asked, askedSaid := impl.GatePass(l, b, s.Door, s.Ask)
			if want = asked; said != askedSaid {
				t.Errorf("%s: %+v, but asking the book itself says %+v", c.ask, said, askedSaid)
			}
		}
		if !same(got, want) {
			t.Errorf("%s given %d wants %s: %s\nnot %s", c.ask, c.given, c.wants, bookText(got), bookText(want))
		}
		if changes := lineChanges(b, got); said.Code != 1 && said.Code != 2 && changes != c.changes {
			t.Errorf("%s given %d wants %s: %s\nnot %s", c.ask, c.given, c.wants, changes, c.changes)
		}
		if saidBook, saidSaid := saidCommit(l, b, s); said != saidSaid || !same(got, saidBook) {
			t.Errorf("%s given %d wants %s: the document says %+v", c.ask, c.given, c.wants, saidSaid)
		}
	}
}

func TestCommitDoesWhatIsAsked(t *testing.T) {
	const eight = "berth b1 3, berth b2 4, job j1 5, job j2 20, job j3 6, job j5 7, mark m1 8, vol v1 1"
	tryCommits(t, passLaw(), passBook(), []commitCase{
		{"d1 ann make job j4 lab 3,small,b1,j1,j5,v1 +a", 16, "job j4 0, berth b1 3, job j1 5, job j5 7, vol v1 1", "0 0 31", "- purse d1 dev job 1 9; - purse d1 dev need 6 7; - purse d1 lab need 4 17; " +
			"+ object job j4 lab 31 3,small,b1,j1,j5,v1 +a; + purse d1 dev need 3 7; + purse d1 lab need 1 17"},
		{"d3 ann make vol v3 dev ,fast,x", 16, "vol v3 0", "0 0 31", "+ object vol v3 dev 31 ,fast,fast"},
		{"d2 ann change job j1 5 4,small,b1,j5,,v1", 16, "job j1 5, job j5 7", "0 0 31", "- object job j1 lab 5 4,small,b1,,,v1 +h +k; + object job j1 lab 31 4,small,b1,j5,,v1 +h +k"},
		{"d3 ann end job j1 0", 16, "job j1 5", "0 0 31", "- object job j1 lab 5 4,small,b1,,,v1 +h +k; + object job j1 lab 31 4,small,b1,,,v1 +h +k ending"},
		{"d3 ann letgo job j1 k", 16, "job j1 5", "0 0 31", "- object job j1 lab 5 4,small,b1,,,v1 +h +k; + object job j1 lab 31 4,small,b1,,,v1 +h"},
		{"d3 ann give zoe 1 job . .", 16, "", "0 0 31", "+ grant 31 zoe ann 1 job . ."},
		{"d3 ann take 4", 16, "", "0 0 31", "- grant 4 bob ann 1234 job lab j"},
		// Wants are what the slip says they are, whatever is asked: none, others, eight, twice the same, of an Ending object, of a kind that there is not.
		{"d3 ann end job j1 0", 16, "", "0 0 31", "- object job j1 lab 5 4,small,b1,,,v1 +h +k; + object job j1 lab 31 4,small,b1,,,v1 +h +k ending"},
		{"d3 ann take 4", 16, eight, "0 0 31", "- grant 4 bob ann 1234 job lab j"},
		{"d3 ann take 4", 16, eight + ", vol v2 2", "2 0 0", ""},
		{"d3 ann take 4", 16, "job j1 5, job j1 5, job none 0, job j1 5", "0 0 31", "- grant 4 bob ann 1234 job lab j"},
		{"d3 ann take 4", 16, "job j3 6", "0 0 31", "- grant 4 bob ann 1234 job lab j"},
		{"d3 ann take 4", 16, "jobs j1 0, zone a 0", "0 0 31", "- grant 4 bob ann 1234 job lab j"},
		{"d3 ann take 4", 16, "jobs j1 1", "12 1 0", ""},
	})
}

// What is not as it was seen, and what is told of it.
func TestCommitLate(t *testing.T) {
	const eight = "berth b1 3, berth b2 4, job j1 5, job j2 20, job j3 6, job j5 7, mark m1 8, "
	tryCommits(t, passLaw(), passBook(), []commitCase{
		// Given, below and above.
		{"d3 ann end job j1 0", 15, "job j1 5", "12 0 0", ""},
		{"d3 ann end job j1 0", 17, "job j1 5", "12 0 0", ""},
		{"d3 ann end job j1 0", 0, "", "12 0 0", ""},
		{"d3 ann take 4", 30, "", "12 0 0", ""},
		{"d3 ann take 4", math.MaxInt, "", "12 0 0", ""},
		{"d3 ann end job j1 0", -1, "job j1 5", "2 0 0", ""},
		// A version, below and above; where there is no such object.
		{"d3 ann end job j1 0", 16, "job j1 4", "12 1 0", ""},
		{"d3 ann end job j1 0", 16, "job j1 6", "12 1 0", ""},
		{"d3 ann end job j1 0", 16, "job j1 31", "12 1 0", ""},
		{"d3 ann end job j1 0", 16, "job j9 1", "12 1 0", ""},
		{"d3 ann end job j1 0", 16, "job j9 5", "12 1 0", ""},
		{"d3 ann end job j1 0", 16, "mark j1 5", "12 1 0", ""},
		{"d3 ann end job j1 0", 16, "job b1 3", "12 1 0", ""},
		{"d3 ann end job j1 0", 16, "job j1 5, vol v1 2", "12 2 0", ""},
		// The version 0, where there is one and where there is none.
		{"d3 ann end job j1 0", 16, "job j1 0", "12 1 0", ""},
		{"d3 ann end job j1 0", 16, "job j9 0, job j3 0", "12 2 0", ""},
		{"d3 ann make job j1 lab 1,,,,,", 16, "job j1 0", "12 1 0", ""},
		{"d3 ann make mark m0 ops .", 16, "mark m0 0, mark m1 0", "12 2 0", ""},
		// The first that is not so.
		{"d3 ann end job j1 0", 16, "job j1 5, job j9 0, vol v1 2, vol v2 1, job j1 0", "12 3 0", ""},
		{"d3 ann end job j1 0", 16, "job j1 4, job j9 9", "12 1 0", ""},
		{"d3 ann end job j1 0", 16, eight + "vol v1 0", "12 8 0", ""},
		{"d3 ann end job j1 0", 16, eight + "vol v1 2", "12 8 0", ""},
		{"d3 ann end job j1 0", 15, "job j1 4", "12 0 0", ""},
		{"d3 ann take 4", 16, "job j1 5, job j1 6", "12 2 0", ""},
	})
	// In a book without objects and grants.
	tryCommits(t, passLaw(), impl.GateBook{}, []commitCase{
		{"d ann end job j1 0", 0, "job j1 0", "3 0 0", ""}, {"d ann end job j1 0", 0, "job j1 1", "12 1 0", ""}, {"d ann end job j1 0", 1, "job j1 1", "12 0 0", ""},
	})
}

// Several codes would stand: the first of the order counts, and behind 12 all of GatePass, with what it tells.
func TestCommitOrderOfCodes(t *testing.T) {
	tryCommits(t, passLaw(), badBooks()["sum"], []commitCase{{"D zoe take 0", -1, "job j1 9", "1 0 0", ""}, {"d3 ann take 4", 16, "", "1 0 0", ""}})
	tryCommits(t, passLaw(), passBook(), []commitCase{
		{"D zoe take 0", 1, "job j1 9", "2 0 0", ""},
		{"d3 zoe take 0", 1, "job j1 9", "2 0 0", ""},
		{"d3 zoe take 2", 1, "job j1 9", "12 0 0", ""},
		{"d3 zoe take 2", 16, "job j1 9", "12 1 0", ""},
		{"d3 zoe take 2", 16, "job j1 5", "3 0 0", ""},
		{"d3 zoe take 4", 16, "job j1 5", "4 0 0", ""},
		{"d3 ann make job j1 lab 1,,,,,", 16, "", "3 0 0", ""},
		{"d3 zoe make mark m0 ops .", 16, "mark m0 0", "4 0 0", ""},
		{"d3 ann change job j1 9 99,small,b1,,,v1", 16, "job j1 4", "12 1 0", ""},
		{"d3 ann change job j1 9 99,small,b1,,,v1", 16, "job j1 5", "5 0 5", ""},
		{"d3 ann change job j3 6 99,,,,,", 16, "job j3 6", "6 0 0", ""},
		{"d3 ann change job j1 5 99,tiny,b2,,,v1", 16, "job j1 5", "7 0 0", ""},
		{"d3 ann change job j1 5 9,big,b2,,,v1", 16, "job j1 5", "8 1 0", ""},
		{"d3 ann change job j1 5 9,small,b2,,,v1", 16, "job j1 5", "9 2 0", ""},
		{"d3 ann change job j1 5 9,small,b1,,,v1", 16, "job j1 5", "10 1 0", ""},
		{"d1 ann change job j1 5 9,small,b1,,,v1", 16, "job j1 5", "10 2 0", ""},
		{"d3 ann make vol v3 pit ,,", 16, "vol v3 0", "10 4 0", ""},
		{"d3 ann make vol v3 pit ,,", 16, "vol v3 1", "12 1 0", ""},
		{"d3 ann end job j1 6", 16, "job j1 5", "5 0 5", ""},
		{"d3 ann end job j3 6", 16, "job j3 6", "6 0 0", ""},
		{"d3 ann letgo job j1 x", 16, "job j1 5", "11 0 0", ""},
		{"d3 ann letgo job j1 x", 16, "job j1 6", "12 1 0", ""},
		{"d3 zoe give yan 1 . . .", 16, "", "4 0 0", ""},
	})
	full := fullBook(40)
	full.Now = 1000000
	tryCommits(t, passLaw(), full, []commitCase{
		{"d3 ann make job j4 lab 9,,b1,,,", 15, "job j4 0", "12 0 0", ""}, {"d3 ann make job j4 lab 9,,b1,,,", 16, "job j4 1", "12 1 0", ""}, {"d3 ann make job j4 lab 9,,b1,,,", 16, "job j4 0", "10 0 0", ""},
		{"d2 ann make job j4 lab 9,,b1,,,", 16, "job j4 0", "11 0 0", ""}, {"d3 ann end job j1 0", 16, "job j1 5", "11 0 0", ""}, {"d3 ann give zoe 1 . . .", 16, "", "11 0 0", ""},
	})
	tryCommits(t, passLaw(), grantedBook(24), []commitCase{{"d3 ann give zoe 1 . . .", 60, "", "11 0 0", ""}, {"d3 ann give zoe 1 . . .", 59, "", "12 0 0", ""}})
}

func TestCommitNotOk(t *testing.T) {
	slips := []impl.GateSlip{{}, {Door: "d", Ask: impl.GateAsk{Who: "ann", Verb: 7}, Given: 6}}
	for _, text := range []string{"ann make vol v3 ops 1,", "ann change vol v1 0 1,", "ann end vol v1 0", "ann letgo job j1 h", "ann give zoe 1 . . .", "ann take 4"} {
		slips = append(slips, impl.GateSlip{Door: "d1", Ask: askOf(text), Given: 6})
	}
	for i, s := range slips {
		want := 0
		if i < 2 {
			want = 2
		}
		if _, said := impl.GateCommit(bookLaw(), sampleBook(), s); said.Code != want {
			t.Fatalf("%+v: %+v", s, said)
		}
		for name, b := range badBooks() {
			if got, said := impl.GateCommit(bookLaw(), b, s); said != (impl.GateSaid{Code: 1}) || !same(got, impl.GateBook{}) {
				t.Errorf("%+v of a book with a fault (%s): %+v, %s", s, name, said, bookText(got))
			}
		}
		for name, l := range badLaws() {
			for _, b := range []impl.GateBook{sampleBook(), {}} {
				if got, said := impl.GateCommit(l, b, s); said != (impl.GateSaid{Code: 1}) || !same(got, impl.GateBook{}) {
					t.Errorf("%+v by a law with a fault (%s): %+v, %s", s, name, said, bookText(got))
				}
			}
		}
	}
	// Of a law of nothing: what needs a kind is no ask.
	for _, s := range slips[2:] {
		want := impl.GateSaid{Code: 2}
		if s.Ask.Verb > 4 {
			want.Code = 12
		}
		if got, said := impl.GateCommit(impl.GateLaw{}, impl.GateBook{}, s); said != want || !same(got, impl.GateBook{}) {
			t.Errorf("%+v by a law of nothing: %+v", s, said)
		}
	}
}

// event is something that happens to a book between a slip and its commit.
type event func(t *testing.T, b impl.GateBook) impl.GateBook

func asks(text string) event {
	return func(t *testing.T, b impl.GateBook) impl.GateBook {
		t.Helper()
		door, ask, _ := strings.Cut(text, " ")
		got, said := impl.GatePass(passLaw(), b, door, askOf(ask))
		if said.Code != 0 {
			t.Fatalf("%s: %+v", text, said)
		}
		return got
	}
}

// calls is a draw, a giving back, a tick, a bound or a sweep.
func calls(call func(l impl.GateLaw, b impl.GateBook) (impl.GateBook, int)) event {
	return func(t *testing.T, b impl.GateBook) impl.GateBook {
		t.Helper()
		got, code := call(passLaw(), b)
		if code != 0 {
			t.Fatalf("a call between: %d", code)
		}
		return got
	}
}

// What a slip relied on, and what it did not: each row has a view, a slip of it, what happens then, and what the commit says.
func TestCommitBehindOtherThings(t *testing.T) {
	sweep, tick := calls(impl.GateSweep), calls(impl.GateTick)
	bound := func(team, resource string, most int) event {
		return calls(func(l impl.GateLaw, b impl.GateBook) (impl.GateBook, int) {
			return impl.GateBound(l, b, team, resource, most)
		})
	}
	draw := func(door, team, resource string, amount int) event {
		return calls(func(l impl.GateLaw, b impl.GateBook) (impl.GateBook, int) {
			return impl.GateDraw(l, b, door, team, resource, amount)
		})
	}
	for what, c := range map[string]struct {
		slip   string
		events []event
		said   string
	}{
		"nothing":                         {"d2 ann change job j1 5 4,small,b1,j5,,v1", nil, "0 0 31"},
		"another object":                  {"d2 ann change job j1 5 4,small,b1,j5,,v1", []event{asks("d3 ann make mark m2 ops ."), asks("d3 ann end mark m1 0")}, "0 0 33"},
		"the object is changed":           {"d2 ann change job j1 0 4,small,b1,j5,,v1", []event{asks("d2 ann change job j1 0 4,small,b1,,,v1")}, "12 1 0"},
		"the object is let go":            {"d2 ann change job j1 0 4,small,b1,j5,,v1", []event{asks("d2 ann letgo job j1 h")}, "12 1 0"},
		"the object is ended":             {"d2 ann letgo job j1 h", []event{asks("d2 ann end job j1 0")}, "12 1 0"},
		"let go of another hold":          {"d2 ann letgo job j1 h", []event{asks("d2 ann letgo job j1 k")}, "12 1 0"},
		"the object is made":              {"d2 ann make mark m2 ops .", []event{asks("d1 ann make mark m2 ops .")}, "12 1 0"},
		"what is newly named is ended":    {"d2 ann change job j1 5 4,small,b1,j5,,v1", []event{asks("d3 ann end job j5 0")}, "12 2 0"},
		"what is newly named is changed":  {"d2 ann change job j1 5 4,small,b1,j5,,v1", []event{asks("d3 ann change job j5 0 1,,,,,")}, "12 2 0"},
		"what was named before is ended":  {"d2 ann change job j1 5 3,small,b1,,,v1", []event{asks("d3 ann end berth b1 0"), asks("d3 ann end vol v1 0")}, "0 0 33"},
		"what is no longer named":         {"d2 ann change job j1 5 4,small,,j5,,v1", []event{asks("d3 ann end berth b1 0")}, "0 0 32"},
		"of two that it names the second": {"d1 ann make job j4 lab 3,,b1,j1,j5,", []event{asks("d3 ann end job j1 0"), asks("d3 ann end job j5 0")}, "12 3 0"},
		"something is given":              {"d3 ann end mark m1 8", []event{asks("d3 ann give zoe 1 . . .")}, "12 0 0"},
		"something is given and taken":    {"d3 ann end mark m1 8", []event{asks("d3 ann give zoe 1 . . ."), asks("d3 ann take 31")}, "12 0 0"},
		"the right is taken":              {"d3 bob letgo job j1 h", []event{asks("d3 ann take 4")}, "12 0 0"},
		"given twice":                     {"d3 ann give zoe 1 . . .", []event{asks("d3 ann give zoe 1 . . .")}, "12 0 0"},
		"the purse is spent":              {"d1 ann make job j4 lab 4,,,,,", []event{asks("d1 ann make job j6 lab 1,,,,,")}, "10 0 0"},
		"the purse is drawn only then":    {"d3 ann make vol v3 pit 1,,", []event{bound("pit", "vol", 120), draw("d3", "pit", "vol", 2)}, "0 0 31"},
		"not all of it":                   {"d3 ann make vol v3 pit 1,,", []event{bound("pit", "vol", 120), draw("d3", "pit", "vol", 1)}, "10 4 0"},
		"the purse is past its ticks":     {"d1 ann make vol v3 pit 1,,", []event{tick, tick, tick}, "10 4 0"},
		"ticks alone":                     {"d1 ann make vol v3 pit 1,,", []event{tick, tick}, "0 0 31"},
		"a new bound":                     {"d3 ann make mark m2 ops .", []event{bound("ops", "mark", 9)}, "10 3 0"},
		"a bound that it does not weigh":  {"d3 ann make mark m2 ops .", []event{bound("ops", "vol", 9)}, "0 0 31"},
		// A sweep marks j2, which j3 owns, and takes it with b2 and j3; unless j2 owns what stays.
		"a sweep marks it":            {"d2 ann change job j2 20 8,big,,,j3,", []event{asks("d2 ann make job j6 pit 0,,,,j2,"), sweep}, "12 1 0"},
		"a sweep marks what it names": {"d2 ann change job j1 5 4,small,b1,j2,,v1", []event{asks("d2 ann make job j6 pit 0,,,,j2,"), sweep}, "12 2 0"},
		"a sweep marks and takes it":  {"d2 ann change job j2 20 8,big,,,j3,", []event{sweep}, "12 1 0"},
		"a sweep takes another":       {"d2 ann change job j1 5 4,small,b1,,,v1", []event{sweep}, "0 0 32"},
		"a sweep takes what it names": {"d2 ann change job j1 5 4,small,b1,j2,,v1", []event{sweep}, "12 2 0"},
		"a sweep takes it":            {"d3 ann change mark m1 0 .", []event{asks("d3 ann end mark m1 8"), sweep}, "12 1 0"},
		"it is gone and made anew":    {"d3 ann change mark m1 0 .", []event{asks("d3 ann end mark m1 8"), sweep, asks("d3 ann make mark m1 ops .")}, "12 1 0"},
		"it came and is gone again":   {"d3 ann make mark m2 ops .", []event{asks("d3 ann make mark m2 ops ."), asks("d3 ann end mark m2 0"), sweep}, "0 0 34"},
		"a sweep straightens it":      {"d2 ann change job j1 0 3,small,b1,j5,,v1", []event{asks("d2 ann change job j1 0 4,small,b1,j5,,v1"), asks("d2 ann end job j5 0"), sweep}, "12 1 0"},
	} {
		s, said := impl.GateSlipOf(passLaw(), passBook(), firstWord(c.slip), askOf(c.slip[len(firstWord(c.slip)):]))
		if said.Code != 0 {
			t.Fatalf("%s: %+v", what, said)
		}
		b := passBook()
		for _, happen := range c.events {
			b = happen(t, b)
		}
		got, said := impl.GateCommit(passLaw(), b, s)
		if saidText(said) != c.said {
			t.Errorf("%s: %s, not %s of %s", what, saidText(said), c.said, bookText(b))
		}
		if want, wantSaid := saidCommit(passLaw(), b, s); said != wantSaid || !same(got, want) {
			t.Errorf("%s: the document says %+v", what, wantSaid)
		}
	}
}

func firstWord(text string) string {
	word, _, _ := strings.Cut(text, " ")
	return word
}

// Two slips of one view: the second one is late just where the first one turned what it relied on.
func TestCommitTwoOfOneView(t *testing.T) {
	l, view := passLaw(), passBook()
	for _, c := range []struct{ first, second, said string }{
		{"d1 ann make mark m2 ops .", "d2 ann make mark m2 ops .", "12 1 0"}, {"d1 ann make mark m2 ops .", "d2 ann make mark m3 ops .", "0 0 32"}, {"d1 ann end job j1 0", "d2 ann end job j1 0", "12 1 0"},
		{"d1 ann end job j5 0", "d2 ann end job j1 0", "0 0 32"}, {"d1 ann end berth b1 0", "d2 ann make job j4 ops ,,b1,,,", "12 2 0"}, {"d2 ann make job j4 ops ,,b1,,,", "d1 ann end berth b1 0", "0 0 32"},
		{"d1 ann take 9", "d2 ann take 9", "12 0 0"}, {"d1 ann take 9", "d2 ann end job j1 0", "12 0 0"}, {"d1 ann end job j1 0", "d2 ann take 9", "0 0 32"},
		{"d1 ann make job j4 lab 3,,,,,", "d1 ann make job j6 lab 1,,,,,", "10 0 0"}, {"d1 ann make job j4 lab 3,,,,,", "d2 ann make job j6 lab 1,,,,,", "0 0 32"},
	} {
		var slips []impl.GateSlip
		for _, text := range []string{c.first, c.second} {
			s, said := impl.GateSlipOf(l, view, firstWord(text), askOf(text[len(firstWord(text)):]))
			if said != (impl.GateSaid{}) {
				t.Fatalf("%s: %+v", text, said)
			}
			slips = append(slips, s)
		}
		once, said := impl.GateCommit(l, view, slips[0])
		if said != (impl.GateSaid{Version: 31}) {
			t.Fatalf("%s: %+v", c.first, said)
		}
		if _, said := impl.GateCommit(l, once, slips[1]); saidText(said) != c.said {
			t.Errorf("%s behind %s: %s, not %s", c.second, c.first, saidText(said), c.said)
		}
	}
}

func TestSlipMemory(t *testing.T) {
	last := passBook()
	last.Now = 1000000
	for _, c := range []struct {
		ask  string
		view impl.GateBook
		code int
	}{
		{"d1 ann make job j4 lab 3,small,b1,j1,j5,v1 +a +b", passBook(), 0}, {"d3 ann make mark m0 ops .", passBook(), 0}, {"d3 ann change job j1 5 9,small,b1,j5,,v1", passBook(), 0}, {"d3 ann end job j1 5", passBook(), 0},
		{"d3 ann letgo job j1 h", passBook(), 0}, {"d3 ann give zoe 1234 job lab j", passBook(), 0}, {"d3 ann take 4", passBook(), 0}, {"D ann take 4", passBook(), 1}, {"d3 ann take 4", badBooks()["sum"], 1},
		{"d3 ann make job j4 lab 3 +b +a", passBook(), 2}, {"d3 ann make job j1 lab ,,,,, +h", passBook(), 3}, {"d3 cy give zoe 1 job lab jj", passBook(), 4}, {"d3 ann end job j1 6", passBook(), 5}, {"d3 ann end job j3 0", passBook(), 6},
		{"d3 ann make berth x ops ,", passBook(), 7}, {"d3 ann change job j1 0 ,,,,,", passBook(), 8}, {"d3 ann change job j5 0 ,,b2,,,", passBook(), 9}, {"d3 ann give zoe 1 . . .", last, 11},
	} {
		door, text, _ := strings.Cut(c.ask, " ")
		l, view, a := withRoom(passLaw()), withRoom(c.view), withRoom(askOf(text))
		ownMemory(t, "GateSlipOf: "+c.ask, []any{l, view, a}, func() any {
			got, said := impl.GateSlipOf(l, view, door, a)
			if said.Code != c.code {
				t.Errorf("%s: %+v, not %d", c.ask, said, c.code)
			}
			return got
		})
		made := impl.GateSlip{Door: door, Ask: a, Given: c.view.Given, Wants: wantsOf("job j1 5, job j9 0")}
		for _, turn := range []func(s *impl.GateSlip){func(s *impl.GateSlip) {}, func(s *impl.GateSlip) { s.Given++ }, func(s *impl.GateSlip) { s.Wants[1].Version = 7 }, func(s *impl.GateSlip) { s.Wants = slices.Repeat(s.Wants, 5) }} {
			s := withRoom(made)
			turn(&s)
			s = withRoom(s)
			args := []any{l, view, s}
			ownMemory(t, "GateSlipOk: "+c.ask, args, func() any { return impl.GateSlipOk(l, s) })
			ownMemory(t, "GateCommit: "+c.ask, args, func() any {
				got, _ := impl.GateCommit(l, view, s)
				return got
			})
		}
	}
}

// What is done to an ask behind its slip, or to a slip behind its commit, turns neither.
func TestSlipStandsAlone(t *testing.T) {
	view, a := passBook(), askOf("ann make job j4 lab 3,small,b1,j1,j5,v1 +a +b")
	s, _ := impl.GateSlipOf(passLaw(), view, "d1", a)
	was := plainText(s)
	a.Values[0], a.Holds[0] = "9", "z"
	view.Objects[0].Version, view.Objects[0].Values[0] = 29, "1"
	if plainText(s) != was {
		t.Errorf("the slip turned with its ask or its view: %+v", s)
	}
	book, said := impl.GateCommit(passLaw(), passBook(), s)
	if said.Code != 0 {
		t.Fatal(said)
	}
	was = plainText(book)
	s.Ask.Values[0], s.Ask.Holds[0] = "9", "z"
	if plainText(book) != was {
		t.Errorf("the book turned with the slip: %s", bookText(book))
	}
	give, _ := impl.GateSlipOf(passLaw(), passBook(), "d1", askOf("ann give zoe 123 job lab j"))
	book, _ = impl.GateCommit(passLaw(), passBook(), give)
	was = plainText(book)
	give.Ask.Rule.Verbs[0] = 2
	if plainText(book) != was {
		t.Errorf("the book turned with the slip: %s", bookText(book))
	}
}
