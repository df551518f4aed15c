package tests

import (
	"fmt"
	"math"
	"slices"
	"strconv"
	"strings"
	"testing"

	"loop.example/wharfgate/impl"
)

// wantsOf reads wants, "KIND NAME VERSION, KIND NAME VERSION".
func wantsOf(text string) []impl.GateWant {
	var out []impl.GateWant
	for _, part := range strings.Split(text, ", ") {
		words := strings.Fields(part)
		if len(words) == 0 {
			continue
		}
		version, err := strconv.Atoi(words[2])
		if err != nil {
			panic(err)
		}
		out = append(out, impl.GateWant{Kind: words[0], Name: words[1], Version: version})
	}
	return out
}

func wantsText(list []impl.GateWant) string {
	var out []string
	for _, w := range list {
		out = append(out, fmt.Sprintf("%s %s %d", w.Kind, w.Name, w.Version))
	}
	return strings.Join(out, ", ")
}

func saidText(said impl.GateSaid) string {
	return fmt.Sprint(said.Code, " ", said.Place, " ", said.Version)
}

// slipCase is a door and an ask, and what is said ("CODE PLACE VERSION") or, where a slip is made, its wants.
type slipCase struct {
	ask   string
	said  string
	wants string
}

// trySlips also asks that the slip has its door, its ask and the view's Given, and that there is none where there is a code.
func trySlips(t *testing.T, l impl.GateLaw, view impl.GateBook, cases []slipCase) {
	t.Helper()
	if !impl.GateBookOk(l, view) {
		t.Fatalf("not ok: %s of %s", saidFault(l, view), bookText(view))
	}
	for _, c := range cases {
		door, text, _ := strings.Cut(c.ask, " ")
		a := askOf(text)
		got, said := impl.GateSlipOf(l, view, door, a)
		if saidText(said) != c.said {
			t.Errorf("%s: %s, not %s", c.ask, saidText(said), c.said)
			continue
		}
		want := impl.GateSlip{}
		if said.Code == 0 {
			want = impl.GateSlip{Door: door, Ask: a, Given: view.Given, Wants: wantsOf(c.wants)}
		}
		if !same(got, want) {
			t.Errorf("%s: %+v, not %+v", c.ask, got, want)
		}
		if said.Code == 0 && !impl.GateSlipOk(l, got) {
			t.Errorf("%s: the slip is not ok: %+v", c.ask, got)
		}
		if saidSlip, slipSaid := saidSlipOf(l, view, door, a); said != slipSaid || !same(got, saidSlip) {
			t.Errorf("%s: the document says %+v %+v", c.ask, slipSaid, saidSlip)
		}
	}
}

// Of each verb what it relies on.
func TestSlipOfWants(t *testing.T) {
	trySlips(t, passLaw(), passBook(), []slipCase{
		{"d1 ann make job j4 lab 3,small,b1,j1,j5,v1 +a +b", "0 0 0", "job j4 0, berth b1 3, job j1 5, job j5 7, vol v1 1"},
		{"d1 ann make job j4 lab 3,small,,j1,,v1", "0 0 0", "job j4 0, job j1 5, vol v1 1"},
		{"d1 ann make job j4 lab ,,,,,", "0 0 0", "job j4 0"},
		{"d3 ann make mark m0 lab . +h", "0 0 0", "mark m0 0"},
		{"d3 ann make berth b3 ops 8,", "0 0 0", "berth b3 0"},
		// One of the name, but of another kind; two links that name the same.
		{"d3 ann make mark j1 ops .", "0 0 0", "mark j1 0"},
		{"d2 ann make job v1 ops ,,,j1,j1,v1", "0 0 0", "job v1 0, job j1 5, job j1 5, vol v1 1"},
		{"d2 ann change job j5 0 ,,,j1,j1,", "0 0 0", "job j5 7, job j1 5, job j1 5"},
		// Links that are as before, turned, set and emptied; the object has the view's version, whether it was seen or not.
		{"d2 ann change job j1 0 4,small,b1,,,v1", "0 0 0", "job j1 5"},
		{"d2 ann change job j1 5 4,small,b1,,,v1", "0 0 0", "job j1 5"},
		{"d2 ann change job j1 5 4,small,b1,j5,,v1", "0 0 0", "job j1 5, job j5 7"},
		{"d2 ann change job j1 5 4,small,,j5,,v1", "0 0 0", "job j1 5, job j5 7"},
		{"d2 ann change job j1 5 4,small,,,,v1", "0 0 0", "job j1 5"},
		{"d2 ann change job j2 0 8,big,,,,", "0 0 0", "job j2 20"},
		{"d2 ann change job j2 20 8,big,b2,j1,j3,v2", "0 0 0", "job j2 20, vol v2 2"},
		{"d2 ann change job j2 20 8,big,b1,j5,j5,v2", "0 0 0", "job j2 20, berth b1 3, job j5 7, job j5 7, vol v2 2"},
		// What a link named before and another one names now is new there.
		{"d2 ann change job j2 20 8,big,b2,j1,j1,", "0 0 0", "job j2 20, job j1 5"},
		{"d2 ann change job j2 20 8,big,b2,,j1,", "0 0 0", "job j2 20, job j1 5"},
		{"d2 ann change job j2 20 8,big,b2,j3,j3,", "9 3 0", ""},
		// To itself.
		{"d2 ann change job j5 0 2,,,,j5,", "0 0 0", "job j5 7"},
		{"d2 ann change job j5 0 2,,,j5,j5,", "0 0 0", "job j5 7, job j5 7"},
		{"d2 ann change job j1 0 4,small,b1,j1,j1,v1", "0 0 0", "job j1 5, job j1 5, job j1 5"},
		{"d2 ann change vol v2 0 ,fast,", "0 0 0", "vol v2 2"},
		{"d3 ann change mark m1 8 .", "0 0 0", "mark m1 8"},
		{"d3 ann end job j1 0", "0 0 0", "job j1 5"},
		{"d3 ann end job j2 20", "0 0 0", "job j2 20"},
		{"d3 eve end job j2 20", "0 0 0", "job j2 20"},
		{"d3 ann letgo job j1 h", "0 0 0", "job j1 5"},
		{"d3 bob letgo job j1 k", "0 0 0", "job j1 5"},
		{"d3 ann give zoe 12345 job lab j", "0 0 0", ""},
		{"d3 ann take 4", "0 0 0", ""},
		{"d3 bob take 9", "0 0 0", ""},
	})
}

// As many wants as a law can ask for: of a kind whose fields are all links.
func TestSlipOfMostWants(t *testing.T) {
	shape := impl.GateShape{Kind: "knot"}
	for _, name := range []string{"f", "e", "d", "c", "b", "a"} {
		shape.Fields = append(shape.Fields, impl.GateField{Name: name, Kind: impl.GateLink, To: "knot", Role: impl.GateLeans})
	}
	l := impl.GateLaw{Shapes: []impl.GateShape{shape}, Teams: teamsOf("dev")}
	view := bookOf(`
		now 9 tick 0 given 0
		object knot k1 dev 5 ,,,,,
		object knot k2 dev 9 k3,,k1,,,k2
		object knot k3 dev 2 ,,,,,
		grant 1 ann . 12 . . .
	`)
	view.Given = 1
	trySlips(t, l, view, []slipCase{
		{"d ann make knot k0 dev k3,k1,k2,k1,k3,k1", "0 0 0", "knot k0 0, knot k3 2, knot k1 5, knot k2 9, knot k1 5, knot k3 2, knot k1 5"},
		{"d ann make knot k0 dev k3,k1,,,,k1", "0 0 0", "knot k0 0, knot k3 2, knot k1 5, knot k1 5"},
		{"d ann make knot k0 dev k3,k1,k2,k1,k3,k0", "9 5 0", ""},
		{"d ann change knot k2 0 k3,k1,k1,k1,k2,k2", "0 0 0", "knot k2 9, knot k1 5, knot k1 5, knot k2 9"},
		{"d ann change knot k2 0 k1,k1,k2,k1,k2,k3", "0 0 0", "knot k2 9, knot k1 5, knot k1 5, knot k2 9, knot k1 5, knot k2 9, knot k3 2"},
		{"d ann change knot k2 0 ,,,,,", "0 0 0", "knot k2 9"},
	})
}

// A law by which a link is filled in or mended is none, so no slip has wants of such.
func TestSlipOfLinksThatAreMended(t *testing.T) {
	filled, mended, from := passLaw(), passLaw(), passLaw()
	filled.Shapes[1].Fields[2].Default = "b1"
	mended.Mends = append(mended.Mends, mendOf("job.on=b1"))
	from.Mends = append(from.Mends, mendOf("job.on=<mode"))
	for name, l := range map[string]impl.GateLaw{"filled": filled, "mended": mended, "from another": from} {
		if s, said := impl.GateSlipOf(l, passBook(), "d2", askOf("ann make job j4 lab 3,,,,,")); said != (impl.GateSaid{Code: 1}) || !same(s, impl.GateSlip{}) {
			t.Errorf("%s: %+v %+v", name, said, s)
		}
	}
	// What is filled and mended beside the links leaves the ask as it was asked.
	s, said := impl.GateSlipOf(passLaw(), passBook(), "d2", askOf("ann make job j4 lab ,big,b1,,,"))
	if said.Code != 0 || strings.Join(s.Ask.Values, ",") != ",big,b1,,," || wantsText(s.Wants) != "job j4 0, berth b1 3" {
		t.Errorf("%+v %+v", said, s)
	}
}

// What GatePass refuses of the view, verb by verb; 10 alone is let pass.
func TestSlipOfCodes(t *testing.T) {
	trySlips(t, passLaw(), passBook(), []slipCase{
		{"D ann make mark m0 ops .", "1 0 0", ""},
		{"d3 ann make mark m0 none .", "2 0 0", ""},
		{"d3 ann make mark m1 ops .", "3 0 0", ""},
		{"d3 zoe make mark m0 ops .", "4 0 0", ""},
		{"d3 ann make berth b3 dev ,a", "7 0 0", ""},
		{"d3 ann make vol v3 dev ,slowly,x", "7 2 0", ""},
		{"d3 ann make job j4 ops ,,b1,j3,,", "9 3 0", ""},
		{"d3 ann make job j4 ops ,,,,j4,", "9 4 0", ""},
		// Code 10 is not looked for: a door without a purse, and one that has too little.
		{"d3 ann make job j9 lab 4,,,,,", "0 0 0", "job j9 0"},
		{"d1 ann make job j9 lab 7,,b1,,,", "0 0 0", "job j9 0, berth b1 3"},
		{"d1 ann make vol v3 pit 1000000,,", "0 0 0", "vol v3 0"},
		{"D ann change job j1 0 4,small,b1,,,v1", "1 0 0", ""},
		{"d3 ann change job j1 -1 4,small,b1,,,v1", "2 0 0", ""},
		{"d3 ann change job j9 0 ,,,,,", "3 0 0", ""},
		{"d3 cy change job j1 0 4,small,b1,,,v1", "4 0 0", ""},
		{"d3 ann change job j1 4 4,small,b1,,,v1", "5 0 5", ""},
		{"d3 ann change job j1 6 4,small,b1,,,v1", "5 0 5", ""},
		{"d3 ann change job j3 6 5,,,,,", "6 0 0", ""},
		{"d3 ann change job j1 0 33,small,b1,,,v1", "7 0 0", ""},
		{"d3 ann change job j1 0 4,small,b1,,J,v1", "7 4 0", ""},
		{"d3 ann change job j1 0 4,big,b1,,,v1", "8 1 0", ""},
		{"d3 ann change job j1 0 4,small,b1,,,", "8 5 0", ""},
		{"d3 ann change job j1 0 4,small,b2,,,v1", "9 2 0", ""},
		{"d3 ann change job j1 0 4,small,b1,,none,v1", "9 4 0", ""},
		{"d3 ann change job j1 0 5,small,b1,,,v1", "0 0 0", "job j1 5"},
		{"d1 ann change job j1 0 32,small,b1,j5,,v1", "0 0 0", "job j1 5, job j5 7"},
		{"D ann end job j1 0", "1 0 0", ""},
		{"d3 ann end jobs j1 0", "2 0 0", ""},
		{"d3 ann end job j9 0", "3 0 0", ""},
		{"d3 cy end job j1 0", "4 0 0", ""},
		{"d3 ann end job j1 6", "5 0 5", ""},
		{"d3 ann end job j3 0", "6 0 0", ""},
		{"D ann letgo job j1 h", "1 0 0", ""},
		{"d3 ann letgo job j1 H", "2 0 0", ""},
		{"d3 ann letgo job j9 h", "3 0 0", ""},
		{"d3 cy letgo job j1 h", "4 0 0", ""},
		{"d3 ann letgo job j1 x", "11 0 0", ""},
		{"D ann give zoe 1 . . .", "1 0 0", ""},
		{"d3 ann give zoe 6 . . .", "2 0 0", ""},
		{"d3 bob give zoe 1 . . .", "4 0 0", ""},
		{"D ann take 4", "1 0 0", ""},
		{"d3 ann take 0", "2 0 0", ""},
		{"d3 ann take 2", "3 0 0", ""},
		{"d3 eve take 4", "4 0 0", ""},
	})
}

// The limits of a view, and 10 with 11 behind it: 11 is told.
func TestSlipOfLimits(t *testing.T) {
	trySlips(t, passLaw(), fullBook(39), []slipCase{{"d3 ann make mark m0 ops .", "0 0 0", "mark m0 0"}, {"d3 ann make job j4 lab 9,,b1,,,", "0 0 0", "job j4 0, berth b1 3"}})
	trySlips(t, passLaw(), fullBook(40), []slipCase{
		{"d3 ann make mark m0 ops .", "11 0 0", ""}, {"d3 ann make job j4 lab 9,,b1,,,", "11 0 0", ""}, {"d3 ann make job j4 lab 9,,b2,,,", "9 2 0", ""}, {"d3 ann change job j1 0 9,small,b1,,,v1", "0 0 0", "job j1 5"},
	})
	trySlips(t, passLaw(), grantedBook(23), []slipCase{{"d3 ann give zoe 1 . . .", "0 0 0", ""}})
	trySlips(t, passLaw(), grantedBook(24), []slipCase{{"d3 ann give zoe 1 . . .", "11 0 0", ""}, {"d3 zoe give zoe 1 . . .", "4 0 0", ""}, {"d3 ann take 20", "0 0 0", ""}})
	last := passBook()
	last.Now = 999999
	cases := []slipCase{
		{"d3 ann make mark m0 ops .", "0 0 0", "mark m0 0"}, {"d3 ann make job j4 lab 9,,b1,,,", "0 0 0", "job j4 0, berth b1 3"}, {"d3 ann change job j1 0 4,small,b1,,,v1", "0 0 0", "job j1 5"},
		{"d3 ann change job j1 0 9,small,b1,,,v1", "0 0 0", "job j1 5"}, {"d3 ann end job j1 0", "0 0 0", "job j1 5"}, {"d3 ann letgo job j1 h", "0 0 0", "job j1 5"}, {"d3 ann give zoe 1 . . .", "0 0 0", ""}, {"d3 ann take 4", "0 0 0", ""},
	}
	trySlips(t, passLaw(), last, cases)
	last.Now = 1000000
	for i := range cases {
		cases[i].said = "11 0 0"
	}
	trySlips(t, passLaw(), last, cases)
	full := fullBook(40)
	full.Now = 1000000
	trySlips(t, passLaw(), full, []slipCase{
		{"d3 zoe make job j1 lab 99,,b9,,,", "3 0 0", ""}, {"d3 zoe make job j4 lab 99,,b9,,,", "4 0 0", ""}, {"d3 ann make job j4 lab 99,,b9,,,", "7 0 0", ""}, {"d3 ann make job j4 lab 9,,b9,,,", "9 2 0", ""},
		{"d3 ann make job j4 lab 9,,b1,,,", "11 0 0", ""}, {"d3 ann change job j1 5 9,small,b1,,,v1", "11 0 0", ""},
	})
}

// A law, a view or a door that is not ok; an ask that is not; the view of nothing.
func TestSlipOfNotOk(t *testing.T) {
	asks := []impl.GateAsk{askOf("ann make vol v3 ops 1,"), askOf("ann change vol v1 0 1,"), askOf("ann end vol v1 0"), askOf("ann letgo job j1 h"), askOf("ann give zoe 1 . . ."), askOf("ann take 4"), {}, {Who: "ann", Verb: 9}}
	isNone := func(what string, l impl.GateLaw, view impl.GateBook, door string, a impl.GateAsk, code int) {
		if s, said := impl.GateSlipOf(l, view, door, a); said != (impl.GateSaid{Code: code}) || !same(s, impl.GateSlip{}) {
			t.Errorf("%s: %+v: %+v %+v", what, a, said, s)
		}
	}
	for i, a := range asks {
		if i < 6 {
			if _, said := impl.GateSlipOf(bookLaw(), sampleBook(), "d1", a); said != (impl.GateSaid{}) {
				t.Fatalf("%+v: %+v", a, said)
			}
		} else {
			isNone("not ok", bookLaw(), sampleBook(), "d1", a, 2)
		}
		for name, view := range badBooks() {
			isNone("a view with a fault: "+name, bookLaw(), view, "d1", a, 1)
		}
		for name, l := range badLaws() {
			isNone("a law with a fault: "+name, l, sampleBook(), "d1", a, 1)
			isNone("a law with a fault: "+name, l, impl.GateBook{}, "d1", a, 1)
		}
		for n, door := range oddTexts() {
			if !nameForm.MatchString(door) {
				isNone(fmt.Sprintf("odd door %d", n), bookLaw(), sampleBook(), door, a, 1)
			}
		}
	}
	for _, a := range fullAsks() {
		code := 2
		if a.Verb == impl.GateGive {
			code = 4
		} else if a.Verb == impl.GateTake {
			code = 3
		}
		isNone("a law of nothing", impl.GateLaw{}, impl.GateBook{}, "d", a, code)
	}
	for n, text := range oddTexts() {
		for place := range 6 {
			for _, a := range []impl.GateAsk{askOf("ann make job j4 ops ,,,,,"), askOf("ann change job j5 0 ,,,,,")} {
				a.Values[place] = text
				want, wantSaid := saidSlipOf(passLaw(), passBook(), "d2", a)
				if got, said := impl.GateSlipOf(passLaw(), passBook(), "d2", a); said != wantSaid || !same(got, want) {
					t.Errorf("odd text %d at %d, verb %d: %+v, not %+v", n, place, a.Verb, said, wantSaid)
				}
			}
		}
	}
}

func TestSlipOk(t *testing.T) {
	long, tooLong := strings.Repeat("n", 16), strings.Repeat("n", 17)
	eight := wantsOf("berth b1 3, berth b2 4, job j1 5, job j2 6, job j3 7, job j4 8, vol v1 9, vol v2 10")
	for _, c := range []struct {
		what string
		turn func(s *impl.GateSlip)
		ok   bool
	}{
		{"as it was made", func(s *impl.GateSlip) {}, true},
		{"Door of sixteen", func(s *impl.GateSlip) { s.Door = long }, true},
		{"Door of seventeen", func(s *impl.GateSlip) { s.Door = tooLong }, false},
		{"no Door", func(s *impl.GateSlip) { s.Door = "" }, false},
		{"Door no name", func(s *impl.GateSlip) { s.Door = "D1" }, false},
		{"Door nobody knows", func(s *impl.GateSlip) { s.Door = "nowhere" }, true},
		{"Given 0", func(s *impl.GateSlip) { s.Given = 0 }, true},
		{"Given -1", func(s *impl.GateSlip) { s.Given = -1 }, false},
		{"Given far below 0", func(s *impl.GateSlip) { s.Given = math.MinInt }, false},
		{"Given above all versions", func(s *impl.GateSlip) { s.Given = math.MaxInt }, true},
		{"no wants", func(s *impl.GateSlip) { s.Wants = nil }, true},
		{"an empty list of wants", func(s *impl.GateSlip) { s.Wants = []impl.GateWant{} }, true},
		{"GateMaxWants", func(s *impl.GateSlip) { s.Wants = eight }, true},
		{"one want too many", func(s *impl.GateSlip) { s.Wants = append(slices.Clone(eight), eight[0]) }, false},
		{"wants in any order, and twice", func(s *impl.GateSlip) { s.Wants = wantsOf("vol v1 9, berth b1 3, vol v1 9, vol v1 8") }, true},
		{"a want of nothing", func(s *impl.GateSlip) { s.Wants = []impl.GateWant{{}} }, false},
		{"a want's Kind of sixteen", func(s *impl.GateSlip) { s.Wants[1].Kind = long }, true},
		{"a want's Kind of seventeen", func(s *impl.GateSlip) { s.Wants[1].Kind = tooLong }, false},
		{"a want's Kind that the law does not have", func(s *impl.GateSlip) { s.Wants[0].Kind = "jobs" }, true},
		{"a want without Kind", func(s *impl.GateSlip) { s.Wants[0].Kind = "" }, false},
		{"the last want without Kind", func(s *impl.GateSlip) { s.Wants[len(s.Wants)-1].Kind = "" }, false},
		{"a want's Kind no name", func(s *impl.GateSlip) { s.Wants[1].Kind = "j!" }, false},
		{"a want's Name of sixteen", func(s *impl.GateSlip) { s.Wants[1].Name = long }, true},
		{"a want's Name of seventeen", func(s *impl.GateSlip) { s.Wants[1].Name = tooLong }, false},
		{"a want without Name", func(s *impl.GateSlip) { s.Wants[0].Name = "" }, false},
		{"the last want without Name", func(s *impl.GateSlip) { s.Wants[len(s.Wants)-1].Name = "" }, false},
		{"a want's Name no name", func(s *impl.GateSlip) { s.Wants[1].Name = "B" }, false},
		{"a want's Version 0", func(s *impl.GateSlip) { s.Wants[1].Version = 0 }, true},
		{"a want's Version -1", func(s *impl.GateSlip) { s.Wants[1].Version = -1 }, false},
		{"the first want's Version -1", func(s *impl.GateSlip) { s.Wants[0].Version = -1 }, false},
		{"a want's Version far below 0", func(s *impl.GateSlip) { s.Wants[1].Version = math.MinInt }, false},
		{"a want's Version above all versions", func(s *impl.GateSlip) { s.Wants[1].Version = math.MaxInt }, true},
		{"an ask of nothing", func(s *impl.GateSlip) { s.Ask = impl.GateAsk{} }, false},
		{"an ask without Who", func(s *impl.GateSlip) { s.Ask.Who = "" }, false},
		{"an ask with a value too many", func(s *impl.GateSlip) { s.Ask.Values = append(s.Ask.Values, "") }, false},
		{"an ask with what its verb does not use", func(s *impl.GateSlip) { s.Ask.Number = 1 }, false},
		{"another ask", func(s *impl.GateSlip) { s.Ask = askOf("zoe take 77") }, true},
		{"nothing", func(s *impl.GateSlip) { *s = impl.GateSlip{} }, false},
	} {
		s := impl.GateSlip{Door: "d1", Ask: fullAsks()[0], Given: 16, Wants: wantsOf("job j4 0, berth b1 3, job j1 5, job j5 7, vol v1 1")}
		c.turn(&s)
		if got := impl.GateSlipOk(passLaw(), s); got != c.ok {
			t.Errorf("%s: %v", c.what, got)
		}
		if saidSlipOk(passLaw(), s) != c.ok {
			t.Errorf("%s: the document says %v", c.what, !c.ok)
		}
		if got, said := impl.GateCommit(passLaw(), passBook(), s); (said.Code == 2) == c.ok || !c.ok && (said != impl.GateSaid{Code: 2} || !same(got, impl.GateBook{})) {
			t.Errorf("%s: committed: %+v %s", c.what, said, bookText(got))
		}
	}
}

func TestSlipOkLawsAndTexts(t *testing.T) {
	for _, a := range []impl.GateAsk{askOf("ann change vol v1 0 1,"), askOf("ann give bob 1 . . ."), askOf("ann take 1")} {
		s := impl.GateSlip{Door: "d", Ask: a, Wants: wantsOf("vol v1 1")}
		if !impl.GateSlipOk(bookLaw(), s) || impl.GateSlipOk(impl.GateLaw{}, s) != (a.Verb > 4) {
			t.Errorf("%+v: not as its ask is", s)
		}
		for name, l := range badLaws() {
			if impl.GateSlipOk(l, s) {
				t.Errorf("%+v by a law with a fault: %s", s, name)
			}
		}
	}
	for i, text := range oddTexts() {
		for what, turn := range map[string]func(s *impl.GateSlip){
			"Door": func(s *impl.GateSlip) { s.Door = text }, "a want's Kind": func(s *impl.GateSlip) { s.Wants[1].Kind = text }, "a want's Name": func(s *impl.GateSlip) { s.Wants[0].Name = text }, "Who": func(s *impl.GateSlip) { s.Ask.Who = text },
			"the ask's Kind": func(s *impl.GateSlip) { s.Ask.Kind = text },
		} {
			s := impl.GateSlip{Door: "d1", Ask: fullAsks()[0], Given: 16, Wants: wantsOf("job j4 0, berth b1 3")}
			turn(&s)
			want := nameForm.MatchString(text) && what != "the ask's Kind"
			if got := impl.GateSlipOk(passLaw(), s); got != want {
				t.Errorf("odd text %d as %s: %v", i, what, got)
			}
			book, said := saidCommit(passLaw(), passBook(), s)
			if got, gotSaid := impl.GateCommit(passLaw(), passBook(), s); gotSaid != said || !same(got, book) {
				t.Errorf("odd text %d as %s: committed: %+v, not %+v", i, what, gotSaid, said)
			}
		}
	}
}
