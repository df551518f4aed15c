package tests

import (
	"fmt"
	"math"
	"slices"
	"strconv"
	"strings"
	"testing"

	"loop.example/wharfgate/impl"
)

// passLaw has links of each role, a Fixed field, a kind without fields, one that is a resource too, and mends of which one may give what does not fit.
func passLaw() impl.GateLaw {
	return impl.GateLaw{
		Shapes: []impl.GateShape{
			{Kind: "berth", Fields: []impl.GateField{
				{Name: "room", Kind: impl.GateNumber, Least: 1, Most: 64, Must: true, Weighs: "room"},
				{Name: "zone", Kind: impl.GateWord, Words: []string{"a", "b"}, Default: "a"},
			}},
			{Kind: "job", Fields: []impl.GateField{
				{Name: "need", Kind: impl.GateNumber, Most: 32, Default: "1", Weighs: "need"},
				{Name: "mode", Kind: impl.GateWord, Words: []string{"big", "small"}, Fixed: true},
				{Name: "on", Kind: impl.GateLink, To: "berth", Role: impl.GateHolds},
				{Name: "by", Kind: impl.GateLink, To: "job", Role: impl.GateLeans},
				{Name: "of", Kind: impl.GateLink, To: "job", Role: impl.GateOwned},
				{Name: "vol", Kind: impl.GateLink, To: "vol", Role: impl.GateHolds, Fixed: true},
			}},
			{Kind: "mark"},
			{Kind: "vol", Fields: []impl.GateField{
				{Name: "size", Kind: impl.GateNumber, Most: impl.GateMaxNumber, Weighs: "vol"},
				{Name: "class", Kind: impl.GateWord, Words: []string{"fast", "slowly"}},
				{Name: "note", Kind: impl.GateText, Least: 1, Most: 4},
			}},
		},
		Mends: []impl.GateMend{mendOf("job.need=8 if mode is big"), mendOf("vol.note=<class")},
		Teams: teamsOf("dev lab<dev ops pit<lab"),
	}
}

// passBook is ok by passLaw. The door d1 has just so much that the cases stand at its ends, d2 has much, d3 nothing.
func passBook() impl.GateBook {
	b := bookOf(`
		now 30 tick 7 given 16
		object berth b1 dev 3 8,a
		object berth b2 ops 4 9,b ending
		object job j1 lab 5 4,small,b1,,,v1 +h +k
		object job j2 pit 20 8,big,b2,j1,j3,
		object job j3 lab 6 5,,,,, ending
		object job j5 dev 7 2,,,,j5,
		object mark m1 ops 8 .
		object vol v1 pit 1 4,,
		object vol v2 ops 2 ,fast,fast
		grant 1 ann . 12345 . . .
		grant 4 bob ann 1234 job lab j
		grant 6 bob . 5 job . j
		grant 9 cy bob 14 job lab jj
		grant 12 dan ann 345 job lab .
		grant 13 dan ann 12 . ops .
		grant 16 eve dan 3 job pit j
		ledger dev job 5 0
		ledger dev need 6 0
		ledger lab need 9 0
		ledger ops room 3 0
		ledger pit vol 2 0
		purse d1 dev job 1 9
		purse d1 dev need 6 7
		purse d1 lab need 4 17
		purse d1 pit vol 10 9
		purse d2 dev job 9 9
		purse d2 dev need 30 7
		purse d2 lab need 30 17
		purse d2 ops room 40 8
		purse d2 pit vol 100 9
	`)
	balance(passLaw(), &b)
	return b
}

// askOf reads an ask; "." stands for nothing.
//
//	WHO make KIND NAME TEAM VALUE,VALUE .. and behind it "+hold"
//	WHO change KIND NAME SEEN VALUE,VALUE ..
//	WHO end KIND NAME SEEN
//	WHO letgo KIND NAME HOLD
//	WHO give TO VERBS KIND TEAM PREFIX
//	WHO take NUMBER
func askOf(text string) impl.GateAsk {
	words := strings.Fields(text)
	number := func(i int) int {
		n, err := strconv.Atoi(words[i])
		if err != nil {
			panic(err)
		}
		return n
	}
	values := func(i int) []string {
		if words[i] == "." {
			return nil
		}
		return strings.Split(words[i], ",")
	}
	a := impl.GateAsk{Who: strings.Trim(words[0], "."), Verb: 1 + slices.Index([]string{"make", "change", "end", "letgo", "give", "take"}, words[1])}
	if a.Verb <= 4 {
		a.Kind, a.Name = words[2], words[3]
	}
	switch a.Verb {
	case 1:
		a.Team, a.Values = words[4], values(5)
		for _, word := range words[6:] {
			a.Holds = append(a.Holds, strings.TrimPrefix(word, "+"))
		}
	case 2:
		a.Seen, a.Values = number(4), values(5)
	case 3:
		a.Seen = number(4)
	case 4:
		a.Hold = words[4]
	case 5:
		a.To, a.Rule = words[2], ruleOf(strings.Join(words[3:], " "))
	case 6:
		a.Number = number(2)
	default:
		panic(text)
	}
	return a
}

// allLinesOf tells a book but for its counts, as bookOf reads it.
func allLinesOf(b impl.GateBook) []string {
	var lines []string
	for _, o := range b.Objects {
		lines = append(lines, "object "+objectLine(o))
	}
	for _, g := range b.Grants {
		lines = append(lines, fmt.Sprintf("grant %d %s %s %s", g.Number, g.To, dotted(g.By), ruleLine(g.Rule)))
	}
	return append(lines, linesOf(b)[1:]...)
}

func objectLine(o impl.GateObject) string {
	line := fmt.Sprintf("%s %s %s %d %s", o.Kind, o.Name, o.Team, o.Version, dotted(strings.Join(o.Values, ",")))
	for _, hold := range o.Holds {
		line += " +" + hold
	}
	if o.Ending {
		line += " ending"
	}
	return line
}

func ruleLine(r impl.GateRule) string {
	verbs := ""
	for _, verb := range r.Verbs {
		verbs += strconv.Itoa(verb)
	}
	return strings.Join([]string{verbs, dotted(r.Kind), dotted(r.Team), dotted(r.Prefix)}, " ")
}

func dotted(text string) string {
	if text == "" {
		return "."
	}
	return text
}

// passCase is a door and an ask, what is said ("CODE PLACE VERSION"), and which lines of the book change: "- line" goes, "+ line" comes.
type passCase struct {
	ask     string
	said    string
	changes string
}

// tryPasses also asks that the counts change as they must, that the book stays ok, and that with a code it is as it was.
func tryPasses(t *testing.T, l impl.GateLaw, b impl.GateBook, cases []passCase) {
	t.Helper()
	if !impl.GateBookOk(l, b) {
		t.Fatalf("not ok: %s of %s", saidFault(l, b), bookText(b))
	}
	for _, c := range cases {
		door, text, _ := strings.Cut(c.ask, " ")
		a := askOf(text)
		got, said := impl.GatePass(l, b, door, a)
		if told := fmt.Sprint(said.Code, " ", said.Place, " ", said.Version); told != c.said {
			t.Errorf("%s: %s, not %s", c.ask, told, c.said)
			continue
		}
		if want, wantSaid := saidPass(l, b, door, a); said != wantSaid || !same(got, want) {
			t.Errorf("%s: the document says %+v\n%s\nnot %s", c.ask, wantSaid, bookText(want), bookText(got))
		}
		if said.Code > 0 {
			if said.Code > 2 && !same(got, b) || said.Code < 3 && !same(got, impl.GateBook{}) {
				t.Errorf("%s: with the code %d the book is %s", c.ask, said.Code, bookText(got))
			}
			continue
		}
		if changes := lineChanges(b, got); changes != c.changes {
			t.Errorf("%s: %s\nnot %s", c.ask, changes, c.changes)
		}
		given := b.Given
		if a.Verb >= impl.GateGive {
			given = got.Now
		}
		if got.Now != b.Now+1 || said.Version != got.Now || got.Tick != b.Tick || got.Given != given || !impl.GateBookOk(l, got) {
			t.Errorf("%s: not as it must be: %s", c.ask, bookText(got))
		}
	}
}

func lineChanges(old, b impl.GateBook) string {
	return changedLines(allLinesOf(old), allLinesOf(b))
}

// changedLines tells which lines go and which come.
func changedLines(old, lines []string) string {
	var out []string
	for _, line := range old {
		if !slices.Contains(lines, line) {
			out = append(out, "- "+line)
		}
	}
	for _, line := range lines {
		if !slices.Contains(old, line) {
			out = append(out, "+ "+line)
		}
	}
	return strings.Join(out, "; ")
}

func TestMay(t *testing.T) {
	l := passLaw()
	for _, c := range []struct {
		who, act string
		want     bool
	}{
		{"ann", "1 job lab j", true}, {"ann", "5 x nowhere z", true}, {"ann", "1 . . .", true}, {"ann", "2 berth ops b", true},
		{"bob", "1 job lab j", true}, {"bob", "4 job pit j9", true}, {"bob", "1 job dev j", false}, {"bob", "1 vol lab j", false}, {"bob", "1 job lab k", false}, {"bob", "1 job lab .", false},
		// The last of several grants allows it.
		{"bob", "5 job ops j", true}, {"bob", "5 job . jj", true}, {"dan", "1 berth ops b", true}, {"dan", "2 . ops .", true}, {"dan", "3 job pit x", true}, {"dan", "3 job ops x", false}, {"dan", "1 job lab x", false},
		// In no rule.
		{"ann", "6 job lab j", false}, {"ann", "0 job lab j", false}, {"ann", "7 job lab j", false},
		// Of others.
		{"eve", "3 job pit j", true}, {"eve", "3 job lab j", false}, {"zoe", "3 job pit j", false}, {"an", "3 job pit j", false}, {"ann1", "3 job pit j", false}, {"ANN", "3 job pit j", false}, {"", "3 job pit j", false},
	} {
		if got := impl.GateMay(l, passBook(), c.who, actOf(c.act)); got != c.want {
			t.Errorf("%s may %s: %v", c.who, c.act, got)
		}
	}
	none := passBook()
	none.Grants = nil
	if impl.GateMay(l, none, "ann", actOf("1 job lab j")) || impl.GateMay(l, impl.GateBook{}, "ann", actOf("1 job lab j")) || impl.GateMay(impl.GateLaw{}, impl.GateBook{}, "", impl.GateAct{}) {
		t.Error("without a grant nobody may")
	}
	others := passBook()
	others.Grants = others.Grants[1:]
	if impl.GateMay(l, others, "ann", actOf("1 job lab j")) {
		t.Error("grants to others alone")
	}
	last := passBook()
	last.Grants = append(last.Grants, bookOf("grant 17 bob ann 3 mark ops .").Grants...)
	last.Given = 17
	if !impl.GateMay(l, last, "bob", actOf("3 mark ops m1")) || impl.GateMay(l, passBook(), "bob", actOf("3 mark ops m1")) {
		t.Error("the last of three grants allows it")
	}
}

func TestMayOddActs(t *testing.T) {
	l, b := passLaw(), passBook()
	for i, text := range oddTexts() {
		for name, act := range map[string]impl.GateAct{
			"Kind": {Verb: 1, Kind: text, Team: "lab", Name: "j"}, "Team": {Verb: 1, Kind: "job", Team: text, Name: "j"}, "Name": {Verb: 1, Kind: "job", Team: "lab", Name: "j" + text}, "all": {Verb: 1, Kind: text, Team: text, Name: text},
		} {
			if !impl.GateMay(l, b, "ann", act) {
				t.Errorf("odd text %d as %s: ann may all", i, name)
			}
			if got, want := impl.GateMay(l, b, "bob", act), name == "Name"; got != want {
				t.Errorf("odd text %d as %s: bob may: %v", i, name, got)
			}
		}
		if impl.GateMay(l, b, text, actOf("1 job lab j")) {
			t.Errorf("odd text %d is nobody", i)
		}
	}
	for _, verb := range []int{math.MinInt, -1, 0, 6, 7, 8, 9, 63, 64, 65, math.MaxInt} {
		if impl.GateMay(l, b, "ann", impl.GateAct{Verb: verb, Kind: "job", Team: "lab", Name: "j"}) {
			t.Errorf("verb %d is in no rule", verb)
		}
	}
}

func TestMayNotOk(t *testing.T) {
	act := actOf("1 job lab j")
	if !impl.GateMay(bookLaw(), sampleBook(), "ann", act) {
		t.Fatal("ann may in the sample")
	}
	for name, b := range badBooks() {
		if impl.GateMay(bookLaw(), b, "ann", act) {
			t.Errorf("of a book with a fault: %s", name)
		}
	}
	for name, l := range badLaws() {
		if impl.GateMay(l, sampleBook(), "ann", act) {
			t.Errorf("by a law with a fault: %s", name)
		}
	}
	if impl.GateMay(impl.GateLaw{}, sampleBook(), "ann", act) {
		t.Error("by a law of nothing")
	}
}

// fullAsks is an ask of each verb with all that it uses.
func fullAsks() []impl.GateAsk {
	return []impl.GateAsk{
		askOf("ann make job j4 lab 3,small,b1,j1,j5,v1 +a +b +c"), askOf("ann change job j1 5 4,small,b1,,,v1"), askOf("ann end job j1 5"),
		askOf("ann letgo job j1 h"), askOf("ann give bob 12345 job lab j"), askOf("ann take 4"),
	}
}

// askTurn is something done to an ask, and by which verbs it is ok then.
type askTurn struct {
	what string
	turn func(a *impl.GateAsk)
	ok   string
}

func tryAsks(t *testing.T, turns []askTurn) {
	t.Helper()
	for _, c := range turns {
		for _, a := range fullAsks() {
			c.turn(&a)
			want := strings.Contains(c.ok, strconv.Itoa(a.Verb))
			if got := impl.GateAskOk(passLaw(), a); got != want {
				t.Errorf("%s, verb %d: %v", c.what, a.Verb, got)
			}
			if saidAskOk(passLaw(), a) != want {
				t.Errorf("%s, verb %d: the document says %v", c.what, a.Verb, !want)
			}
		}
	}
}

func TestAskOk(t *testing.T) {
	long, tooLong := strings.Repeat("n", 16), strings.Repeat("n", 17)
	tryAsks(t, []askTurn{
		{"all that it uses", func(a *impl.GateAsk) {}, "123456"},
		{"Who of sixteen", func(a *impl.GateAsk) { a.Who = long }, "123456"},
		{"Who of seventeen", func(a *impl.GateAsk) { a.Who = tooLong }, ""},
		{"no Who", func(a *impl.GateAsk) { a.Who = "" }, ""},
		{"Who no name", func(a *impl.GateAsk) { a.Who = "Ann" }, ""},
		{"Who nobody knows", func(a *impl.GateAsk) { a.Who = "nobody" }, "123456"},
		// What the first four use; of the others it is to be nothing.
		{"another Kind of as many values", func(a *impl.GateAsk) { a.Kind = "job" }, "1234"},
		{"a Kind that there is not", func(a *impl.GateAsk) { a.Kind = "jobs" }, ""},
		{"a Kind of fewer values", func(a *impl.GateAsk) { a.Kind = "berth" }, "34"},
		{"a Kind of none", func(a *impl.GateAsk) { a.Kind = "mark" }, "34"},
		{"no Kind", func(a *impl.GateAsk) { a.Kind = "" }, "56"},
		{"Kind no name", func(a *impl.GateAsk) { a.Kind = "JOB" }, ""},
		{"Name of sixteen", func(a *impl.GateAsk) { a.Name = long }, "1234"},
		{"Name of seventeen", func(a *impl.GateAsk) { a.Name = tooLong }, ""},
		{"no Name", func(a *impl.GateAsk) { a.Name = "" }, "56"},
		{"Name no name", func(a *impl.GateAsk) { a.Name = "j!" }, ""},
		// What one or two use.
		{"another Team", func(a *impl.GateAsk) { a.Team = "ops" }, "1"},
		{"a Team that the law does not have", func(a *impl.GateAsk) { a.Team = "nowhere" }, ""},
		{"no Team", func(a *impl.GateAsk) { a.Team = "" }, "23456"},
		{"Team no name", func(a *impl.GateAsk) { a.Team = "LAB" }, ""},
		{"one value", func(a *impl.GateAsk) { a.Values = []string{"1"} }, ""},
		{"one empty value", func(a *impl.GateAsk) { a.Values = []string{""} }, ""},
		{"one value too few", func(a *impl.GateAsk) { a.Values = make([]string, 5) }, ""},
		{"values of nothing", func(a *impl.GateAsk) { a.Values = make([]string, 6) }, "12"},
		{"one value too many", func(a *impl.GateAsk) { a.Values = make([]string, 7) }, ""},
		{"no values", func(a *impl.GateAsk) { a.Values = nil }, "3456"},
		{"an empty list of values", func(a *impl.GateAsk) { a.Values = []string{} }, "3456"},
		{"values that do not fit", func(a *impl.GateAsk) { a.Values = []string{"x", "x", "X", "\xff", " ", strings.Repeat("x", 1000)} }, "12"},
		{"no Holds", func(a *impl.GateAsk) { a.Holds = nil }, "123456"},
		{"an empty list of Holds", func(a *impl.GateAsk) { a.Holds = []string{} }, "123456"},
		{"one hold", func(a *impl.GateAsk) { a.Holds = []string{"a"} }, "1"},
		{"GateMaxHolds", func(a *impl.GateAsk) { a.Holds = []string{"a", "b", long} }, "1"},
		{"one hold too many", func(a *impl.GateAsk) { a.Holds = []string{"a", "b", "c", "d"} }, ""},
		{"holds not ascending", func(a *impl.GateAsk) { a.Holds = []string{"b", "a"} }, ""},
		{"twice the same hold", func(a *impl.GateAsk) { a.Holds = []string{"a", "a"} }, ""},
		{"a hold that is no name", func(a *impl.GateAsk) { a.Holds = []string{"a", "b!"} }, ""},
		{"an empty hold", func(a *impl.GateAsk) { a.Holds = []string{""} }, ""},
		{"a hold too long", func(a *impl.GateAsk) { a.Holds = []string{tooLong} }, ""},
		{"Seen 0", func(a *impl.GateAsk) { a.Seen = 0 }, "123456"},
		{"Seen 1", func(a *impl.GateAsk) { a.Seen = 1 }, "23"},
		{"Seen below 0", func(a *impl.GateAsk) { a.Seen = -1 }, ""},
		{"Seen far below 0", func(a *impl.GateAsk) { a.Seen = math.MinInt }, ""},
		{"Seen above all versions", func(a *impl.GateAsk) { a.Seen = math.MaxInt }, "23"},
		{"another Hold", func(a *impl.GateAsk) { a.Hold = long }, "4"},
		{"no Hold", func(a *impl.GateAsk) { a.Hold = "" }, "12356"},
		{"Hold no name", func(a *impl.GateAsk) { a.Hold = "H" }, ""},
		{"Hold too long", func(a *impl.GateAsk) { a.Hold = tooLong }, ""},
		{"another To", func(a *impl.GateAsk) { a.To = long }, "5"},
		{"no To", func(a *impl.GateAsk) { a.To = "" }, "12346"},
		{"To no name", func(a *impl.GateAsk) { a.To = "b o" }, ""},
		{"To too long", func(a *impl.GateAsk) { a.To = tooLong }, ""},
		{"Number 0", func(a *impl.GateAsk) { a.Number = 0 }, "12345"},
		{"Number 1", func(a *impl.GateAsk) { a.Number = 1 }, "6"},
		{"Number below 0", func(a *impl.GateAsk) { a.Number = -1 }, ""},
		{"Number far below 0", func(a *impl.GateAsk) { a.Number = math.MinInt }, ""},
		{"Number above all versions", func(a *impl.GateAsk) { a.Number = math.MaxInt }, "6"},
		// The rule.
		{"no Rule", func(a *impl.GateAsk) { a.Rule = impl.GateRule{} }, "12346"},
		{"a Rule of an empty list", func(a *impl.GateAsk) { a.Rule = impl.GateRule{Verbs: []int{}} }, "12346"},
		{"a Rule of one verb", func(a *impl.GateAsk) { a.Rule = ruleOf("3 . . .") }, "5"},
		{"a Rule without verbs, but a Kind", func(a *impl.GateAsk) { a.Rule = impl.GateRule{Kind: "job"} }, ""},
		{"a Rule without verbs, but a Team", func(a *impl.GateAsk) { a.Rule = impl.GateRule{Team: "lab"} }, ""},
		{"a Rule without verbs, but a Prefix", func(a *impl.GateAsk) { a.Rule = impl.GateRule{Prefix: "j"} }, ""},
		{"a Rule of what the law does not have", func(a *impl.GateAsk) { a.Rule = ruleOf("1 jobs nowhere j") }, "5"},
		{"a Rule with GateTake", func(a *impl.GateAsk) { a.Rule = ruleOf("16 . . .") }, ""},
		{"a Rule whose verbs fall", func(a *impl.GateAsk) { a.Rule = ruleOf("21 . . .") }, ""},
		{"a Rule with a verb twice", func(a *impl.GateAsk) { a.Rule = ruleOf("11 . . .") }, ""},
		{"a Rule with the verb 0", func(a *impl.GateAsk) { a.Rule = ruleOf("01 . . .") }, ""},
		{"a Rule whose Kind is no name", func(a *impl.GateAsk) { a.Rule.Kind = "Job" }, ""},
		{"a Rule whose Team is no name", func(a *impl.GateAsk) { a.Rule.Team = tooLong }, ""},
		{"a Rule whose Prefix is of sixteen", func(a *impl.GateAsk) { a.Rule.Prefix = long }, "5"},
		{"a Rule whose Prefix is too long", func(a *impl.GateAsk) { a.Rule.Prefix = tooLong }, ""},
		{"a Rule whose Prefix has other bytes", func(a *impl.GateAsk) { a.Rule.Prefix = "j_" }, ""},
		// Two wrongs.
		{"no Who and no Kind", func(a *impl.GateAsk) { a.Who, a.Kind = "", "" }, ""},
		{"all of it", func(a *impl.GateAsk) {
			*a = impl.GateAsk{Who: "ann", Verb: a.Verb, Kind: "job", Name: "j", Team: "lab", Values: make([]string, 6), Holds: []string{"h"}, Seen: 1, Hold: "h", To: "bob", Rule: ruleOf("1 . . ."), Number: 1}
		}, ""},
		{"none of it", func(a *impl.GateAsk) { *a = impl.GateAsk{Who: "ann", Verb: a.Verb} }, ""},
	})
}

func TestAskOkVerbs(t *testing.T) {
	for _, verb := range []int{math.MinInt, -5, -1, 0, 7, 8, 64, math.MaxInt} {
		for _, a := range append(fullAsks(), impl.GateAsk{Who: "ann"}) {
			a.Verb = verb
			if impl.GateAskOk(passLaw(), a) {
				t.Errorf("verb %d: %+v", verb, a)
			}
			if got, said := impl.GatePass(passLaw(), passBook(), "d1", a); said != (impl.GateSaid{Code: 2}) || !same(got, impl.GateBook{}) {
				t.Errorf("verb %d: %+v", verb, said)
			}
		}
	}
	// Each ask with the verb of another one has what that does not use.
	for _, a := range fullAsks() {
		own := a.Verb
		for verb := 1; verb <= 6; verb++ {
			a.Verb = verb
			if got := impl.GateAskOk(passLaw(), a); got != (verb == own) {
				t.Errorf("the ask of verb %d with %d: %v", own, verb, got)
			}
		}
	}
	for what, a := range map[string]impl.GateAsk{
		"a kind without fields": askOf("ann make mark m2 ops ."), "to change it": askOf("ann change mark m1 0 ."),
		"what is not there": askOf("ann change job none 7 ,,,,,"), "a grant that is not there": askOf("ann take 77"),
	} {
		if !impl.GateAskOk(passLaw(), a) {
			t.Errorf("%s: not ok", what)
		}
	}
	if impl.GateAskOk(passLaw(), impl.GateAsk{}) {
		t.Error("an ask of nothing")
	}
}

func TestAskOkLaws(t *testing.T) {
	a := askOf("ann change vol v1 0 1,")
	give, take := askOf("ann give bob 1 . . ."), askOf("ann take 1")
	for _, ask := range []impl.GateAsk{a, give, take} {
		if !impl.GateAskOk(bookLaw(), ask) {
			t.Fatalf("%+v: not ok", ask)
		}
		for name, l := range badLaws() {
			if impl.GateAskOk(l, ask) {
				t.Errorf("%+v by a law with a fault: %s", ask, name)
			}
		}
	}
	if impl.GateAskOk(impl.GateLaw{}, a) || !impl.GateAskOk(impl.GateLaw{}, give) || !impl.GateAskOk(impl.GateLaw{}, take) {
		t.Error("a law of nothing is ok, and has no kinds")
	}
}

func TestAskOkOddTexts(t *testing.T) {
	for i, text := range oddTexts() {
		tryOdd := func(what string, verbs string, turn func(a *impl.GateAsk)) {
			for _, a := range fullAsks() {
				if !strings.Contains(verbs, strconv.Itoa(a.Verb)) {
					continue
				}
				turn(&a)
				if got, want := impl.GateAskOk(passLaw(), a), saidAskOk(passLaw(), a); got != want {
					t.Errorf("odd text %d as %s, verb %d: %v", i, what, a.Verb, got)
				}
				if got, said := impl.GatePass(passLaw(), passBook(), "d1", a); !saidAskOk(passLaw(), a) && (said != (impl.GateSaid{Code: 2}) || !same(got, impl.GateBook{})) {
					t.Errorf("odd text %d as %s, verb %d: %+v", i, what, a.Verb, said)
				}
			}
		}
		tryOdd("Who", "123456", func(a *impl.GateAsk) { a.Who = text })
		tryOdd("Kind", "123456", func(a *impl.GateAsk) { a.Kind = text })
		tryOdd("Name", "123456", func(a *impl.GateAsk) { a.Name = text })
		tryOdd("Team", "123456", func(a *impl.GateAsk) { a.Team = text })
		tryOdd("Hold", "123456", func(a *impl.GateAsk) { a.Hold = text })
		tryOdd("To", "123456", func(a *impl.GateAsk) { a.To = text })
		tryOdd("a hold", "1", func(a *impl.GateAsk) { a.Holds[1] = text })
		tryOdd("a value", "12", func(a *impl.GateAsk) { a.Values[i%6] = text })
		tryOdd("the rule's Kind", "123456", func(a *impl.GateAsk) { a.Rule.Kind = text })
		tryOdd("the rule's Team", "123456", func(a *impl.GateAsk) { a.Rule.Team = text })
		tryOdd("the rule's Prefix", "123456", func(a *impl.GateAsk) { a.Rule.Prefix = text })
	}
}
