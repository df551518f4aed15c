package tests

import (
	"math"
	"reflect"
	"slices"
	"strconv"
	"strings"
	"testing"

	"loop.example/wharfgate/impl"
)

// teamsOf reads teams from words: "dev lab<dev ops"; "." stands for the empty name.
func teamsOf(text string) []impl.GateTeam {
	var list []impl.GateTeam
	for _, word := range strings.Fields(text) {
		name, over, _ := strings.Cut(word, "<")
		list = append(list, impl.GateTeam{Name: strings.ReplaceAll(name, ".", ""), Over: strings.ReplaceAll(over, ".", "")})
	}
	return list
}

// ruleOf reads a rule from four words: its verbs, a digit each, Kind, Team and Prefix; "." stands for nothing.
func ruleOf(text string) impl.GateRule {
	words := strings.Fields(strings.ReplaceAll(text, ".", "\x00"))
	for i := range words {
		words[i] = strings.ReplaceAll(words[i], "\x00", "")
	}
	r := impl.GateRule{Kind: words[1], Team: words[2], Prefix: words[3]}
	for _, digit := range words[0] {
		r.Verbs = append(r.Verbs, int(digit-'0'))
	}
	return r
}

// rulesOf reads rules with "; " between.
func rulesOf(text string) []impl.GateRule {
	var list []impl.GateRule
	for piece := range strings.SplitSeq(text, "; ") {
		if piece != "" {
			list = append(list, ruleOf(piece))
		}
	}
	return list
}

// actOf reads an act from four words, its verb the first one; "." stands for nothing.
func actOf(text string) impl.GateAct {
	r := ruleOf(text)
	return impl.GateAct{Verb: r.Verbs[0], Kind: r.Kind, Team: r.Team, Name: r.Prefix}
}

// rightTeams is teams that are ok: five in each other, and three by themselves.
func rightTeams() []impl.GateTeam {
	return teamsOf("dev lab<dev lone ops p0 p1<p0 p2<p1 p3<p2 p4<p3")
}

// badTeams is teams that are not ok, though most of each is.
func badTeams() map[string][]impl.GateTeam {
	return map[string][]impl.GateTeam{
		"order":          teamsOf("lab<dev dev ops"),
		"twice":          teamsOf("dev dev lab<dev ops"),
		"no name":        teamsOf("DEV dev lab<dev ops"),
		"the empty name": teamsOf(". dev lab<dev ops"),
		"Over none":      teamsOf("dev lab<dev ops<sea"),
		"over itself":    teamsOf("dev lab<dev ops<ops"),
		"a circle":       teamsOf("dev<lab lab<dev ops"),
		"too deep":       teamsOf("dev lab<dev ops p0 p1<p0 p2<p1 p3<p2 p4<p3 p5<p4"),
		"one more":       append(teamsOf("dev lab<dev"), teamsOf("n0 n1 n2 n3 n4 n5 n6 n7 n8 n9 ops")...),
	}
}

// badRules is rules that are not ok.
func badRules() map[string]impl.GateRule {
	long, dash := strings.Repeat("n", 17), strings.Repeat("-", 17)
	out := map[string]impl.GateRule{
		"nothing":                 {},
		"no verbs":                {Verbs: []int{}, Kind: "job"},
		"twice":                   ruleOf("11 . . ."),
		"twice, late":             ruleOf("12344 . . ."),
		"not ascending":           ruleOf("21 . . ."),
		"not ascending, late":     ruleOf("1243 . . ."),
		"below 1":                 ruleOf("0 . . ."),
		"below 1, ahead":          ruleOf("01 . . ."),
		"above 5":                 ruleOf("6 . . ."),
		"above 5, behind":         ruleOf("123456 . . ."),
		"below 0":                 {Verbs: []int{-1, 1}},
		"far below 0":             {Verbs: []int{math.MinInt, 1}},
		"far above":               {Verbs: []int{1, math.MaxInt}},
		"round by 64":             {Verbs: []int{1, 65}},
		"round by 256":            {Verbs: []int{257}},
		"very many verbs":         {Verbs: slices.Repeat([]int{1}, 100000)},
		"a Kind too long":         {Verbs: []int{1}, Kind: long},
		"a Team too long":         {Verbs: []int{1}, Team: long},
		"a Prefix too long":       {Verbs: []int{1}, Prefix: long},
		"a Prefix of 17 dashes":   {Verbs: []int{1}, Prefix: dash},
		"a Kind with a capital":   {Verbs: []int{1}, Kind: "Job"},
		"a Team with a space":     {Verbs: []int{1}, Team: "dev "},
		"a Prefix with a capital": {Verbs: []int{1}, Prefix: "B"},
		"a Prefix with a star":    {Verbs: []int{1}, Prefix: "b*"},
	}
	for i, text := range oddTexts() {
		if nameForm.MatchString(text) || text == "" {
			continue
		}
		out["odd Kind "+strconv.Itoa(i)] = impl.GateRule{Verbs: []int{1}, Kind: text}
		out["odd Team "+strconv.Itoa(i)] = impl.GateRule{Verbs: []int{1}, Team: text}
		out["odd Prefix "+strconv.Itoa(i)] = impl.GateRule{Verbs: []int{1}, Prefix: text}
	}
	return out
}

func TestUnder(t *testing.T) {
	row := "a<b b<c c<d d<e e<f f<g g"
	for _, c := range []struct {
		teams, a, b string
		want        bool
	}{
		{"dev lab<dev ops", "lab", "dev", true},
		{"dev lab<dev ops", "dev", "lab", false},
		{"dev lab<dev ops", "lab", "ops", false},
		{"dev lab<dev ops", "ops", "dev", false},
		// b is a, a team or not.
		{"dev lab<dev ops", "lab", "lab", true},
		{"dev lab<dev ops", "sea", "sea", true},
		{"dev lab<dev ops", "No Name", "No Name", true},
		{"", "dev", "dev", true},
		{"", "dev", "lab", false},
		{"dev lab<dev ops", "sea", "dev", false},
		{"dev lab<dev ops", "lab", "sea", false},
		// A text that begins like another one is another one.
		{"dev lab<dev ops", "la", "dev", false},
		{"dev lab<dev ops", "lab", "de", false},
		{"dev lab<dev ops", "lab", "devs", false},
		// The empty one is under itself alone, and nothing else is under it.
		{"dev lab<dev ops", "", "", true},
		{"dev lab<dev ops", "", "dev", false},
		{"dev lab<dev ops", "dev", "", false},
		{"dev lab<dev ops", "lab", "", false},
		{"", "", "", true},
		{". dev", "dev", "", false},
		// From a team of the empty name it goes on; through it, it does not.
		{".<dev dev", "", "dev", true},
		{".<dev dev<ops ops", "", "ops", true},
		{"lab<. .<dev dev", "lab", "dev", false},
		{"lab<. .<dev dev", "lab", "", false},
		// Four steps up, and one more.
		{row, "a", "b", true},
		{row, "a", "d", true},
		{row, "a", "e", true},
		{row, "a", "f", false},
		{row, "a", "g", false},
		{row, "b", "f", true},
		{row, "b", "g", false},
		{row, "c", "g", true},
		{row, "g", "a", false},
		{row, "b", "a", false},
		{"g f<g e<f d<e c<d b<c a<b", "a", "e", true},
		{"g f<g e<f d<e c<d b<c a<b", "a", "f", false},
		// An Over that is no team is met, and ends the way.
		{"lab<sea", "lab", "sea", true},
		{"lab<sea", "sea", "lab", false},
		{"lab<sea dev", "lab", "dev", false},
		{"a<b b<c c<d d<e", "a", "e", true},
		{"a<b b<c c<d d<e e<f", "a", "f", false},
		// The first team of a Name counts.
		{"lab<dev lab<ops", "lab", "dev", true},
		{"lab<dev lab<ops", "lab", "ops", false},
		{"lab lab<ops", "lab", "ops", false},
		{"x<lab lab<dev lab<ops", "x", "dev", true},
		{"x<lab lab<dev lab<ops", "x", "ops", false},
		// Over itself, and in circles.
		{"lab<lab", "lab", "lab", true},
		{"lab<lab dev", "lab", "dev", false},
		{"lab<lab lab<dev", "lab", "dev", false},
		{"a<b b<a", "a", "b", true},
		{"a<b b<a", "b", "a", true},
		{"a<b b<a", "a", "c", false},
		{"a<b b<c c<a", "a", "c", true},
		{"a<b b<c c<b", "a", "d", false},
		{"a<b b<c c<d d<e e<a", "a", "e", true},
		{"a<b b<c c<d d<e e<f f<a", "a", "f", false},
		// Names need not be names.
		{"LAB<D\xff D\xff", "LAB", "D\xff", true},
	} {
		if got := impl.GateUnder(teamsOf(c.teams), c.a, c.b); got != c.want {
			t.Errorf("%q under %q in %s: %v", c.a, c.b, c.teams, got)
		}
	}
}

func TestUnderAnyBytes(t *testing.T) {
	for _, a := range oddTexts() {
		for _, b := range oddTexts() {
			if got := impl.GateUnder(rightTeams(), a, b); got != (a == b) {
				t.Errorf("%.20q under %.20q: %v", a, b, got)
			}
			teams := []impl.GateTeam{{Name: a, Over: b}, {Name: "dev"}}
			if got := impl.GateUnder(teams, a, b); got != (a == b || b != "") {
				t.Errorf("%.20q in %.20q: %v", a, b, got)
			}
		}
	}
	// No bound is set on how many are handed in.
	var many []impl.GateTeam
	for i := range 20000 {
		many = append(many, impl.GateTeam{Name: strconv.Itoa(i), Over: strconv.Itoa(i + 1)})
	}
	if !impl.GateUnder(many, "19996", "20000") || impl.GateUnder(many, "19995", "20000") || impl.GateUnder(many, "0", "19999") {
		t.Error("very many teams")
	}
}

func TestTeamsOk(t *testing.T) {
	longest, over := strings.Repeat("z", 16), strings.Repeat("z", 17)
	for text, want := range map[string]bool{
		"": true, "dev": true, "dev lab<dev ops": true, "dev ops<lab": false, "lab dev": false, "dev dev": false, "dev<. ops": true,
		"- -- 0 00 a a- a-0 aa": true, "a a- -": false, "aa a": false, "a0 a": false, "A": false, "dev_": false, "d\xff": false, ".": false, ". dev": false, "dev<DEV": false,
		longest: true, over: false, "a<" + longest + " " + longest: true, "a<" + over + " " + over: false, "a<" + over: false,
		// Over: a team ahead, one behind, none.
		"a b<a": true, "a<b b": true, "a<b": false, "a<b b<c": false, "a b<a c<a d<b": true,
		// Over itself, and circles, and what stands over or under them.
		"a<a": false, "a b<b": false, "a<b b<a": false, "a<b b<c c<a": false, "a<b b<c c<d d<a": false, "a<b b<c c<d d<e e<a": false, "a<b b<c c<d d<e e<f f<a": false,
		"a<b b<c c<b": false, "a<b b<b": false, "a b<a c<d d<c": false,
		// Four over a team, and one more; beside each other there may be more.
		"a b<a c<b d<c e<d": true, "a b<a c<b d<c e<d f<e": false, "a<b b<c c<d d<e e": true, "a<b b<c c<d d<e e<f f": false,
		"a b<a c<b d<c e<d f<d": true, "a b<a c<b d<c e<d f g<f h<g": true, "a<c b<a c<d d<f e<a f": true, "a<c b<a c<d d<f e<b f": false,
		"a b<a c<b d<c e<d f<e g<f h<g i<h j<i k<j l<k": false,
		// Twelve, and one more.
		"a b c d e f g h i j k l": true, "a b c d e f g h i j k l m": false, "a b<a c<a d<a e<a f<a g<a h<a i<a j<a k<a l<a": true, "a b<a c<a d<a e<a f<a g<a h<a i<a j<a k<a l<a m<a": false,
	} {
		if got := impl.GateTeamsOk(teamsOf(text)); got != want {
			t.Errorf("%s: %v", text, got)
		}
	}
	for why, teams := range badTeams() {
		if impl.GateTeamsOk(teams) {
			t.Errorf("%s", why)
		}
	}
	if !impl.GateTeamsOk([]impl.GateTeam{}) || !impl.GateTeamsOk(rightTeams()) || impl.GateTeamsOk(make([]impl.GateTeam, 100000)) {
		t.Error("none, those of the tests, or very many")
	}
	for _, text := range oddTexts() {
		if got := impl.GateTeamsOk([]impl.GateTeam{{Name: text}}); got != nameForm.MatchString(text) {
			t.Errorf("the Name %.20q: %v", text, got)
		}
		if got := impl.GateTeamsOk([]impl.GateTeam{{Name: "dev", Over: text}}); got != (text == "") {
			t.Errorf("the Over %.20q: %v", text, got)
		}
	}
}

func TestAllows(t *testing.T) {
	longest := strings.Repeat("n", 16)
	for _, c := range []struct {
		rule, act string
		want      bool
	}{
		{"13 . dev b", "3 job lab b1", true},
		{"13 . dev b", "2 job lab b1", false},
		{"13 . dev b", "1 job ops b1", false},
		{"13 . dev b", "1 job dev a", false},
		// Each verb by itself, and all; GateTake is in no rule.
		{"1 . . .", "1 job dev b", true},
		{"1 . . .", "2 job dev b", false},
		{"5 . . .", "5 job dev b", true},
		{"5 . . .", "4 job dev b", false},
		{"24 . . .", "3 job dev b", false},
		{"24 . . .", "4 job dev b", true},
		{"12345 . . .", "1 job dev b", true},
		{"12345 . . .", "2 job dev b", true},
		{"12345 . . .", "3 job dev b", true},
		{"12345 . . .", "4 job dev b", true},
		{"12345 . . .", "5 job dev b", true},
		{"12345 . . .", "6 job dev b", false},
		{"12345 . . .", "0 job dev b", false},
		{"12345 . . .", "7 job dev b", false},
		{"12345 . . .", "8 job dev b", false},
		{"12345 . . .", "9 job dev b", false},
		// Kind.
		{"1 job . .", "1 job dev b", true},
		{"1 job . .", "1 jobs dev b", false},
		{"1 job . .", "1 jo dev b", false},
		{"1 job . .", "1 . dev b", false},
		{"1 . . .", "1 . dev b", true},
		{"1 " + longest + " . .", "1 " + longest + " . .", true},
		// Team: its own, one under it, four up, the other way round, none.
		{"1 . dev .", "1 job dev b", true},
		{"1 . dev .", "1 job lab b", true},
		{"1 . lab .", "1 job dev b", false},
		{"1 . dev .", "1 job . b", false},
		{"1 . dev .", "1 job sea b", false},
		{"1 . p0 .", "1 job p4 b", true},
		{"1 . p1 .", "1 job p4 b", true},
		{"1 . p4 .", "1 job p0 b", false},
		{"1 . sea .", "1 job sea b", true},
		{"1 . sea .", "1 job dev b", false},
		{"1 . . .", "1 job . b", true},
		{"1 . . .", "1 job sea b", true},
		// Prefix: the whole Name, longer than it, empty, and of the greatest size.
		{"1 . . b", "1 job dev b", true},
		{"1 . . b", "1 job dev bb", true},
		{"1 . . bb", "1 job dev b", false},
		{"1 . . bb", "1 job dev ab", false},
		{"1 . . b", "1 job dev .", false},
		{"1 . . .", "1 job dev .", true},
		{"1 . . -0", "1 job dev -0-", true},
		{"1 . . " + longest, "1 job dev " + longest, true},
		{"1 . . " + longest, "1 job dev " + longest + "x", true},
		{"1 . . " + longest, "1 job dev " + longest[1:], false},
		// All together.
		{"25 job dev b", "5 job lab b-0", true},
		{"25 job dev b", "5 berth lab b-0", false},
		{"25 job dev b", "5 job ops b-0", false},
		{"25 job dev b", "5 job lab -b0", false},
		{"25 job dev b", "1 job lab b-0", false},
	} {
		if got := impl.GateAllows(rightTeams(), ruleOf(c.rule), actOf(c.act)); got != c.want {
			t.Errorf("%s, %s: %v", c.rule, c.act, got)
		}
	}
	if !impl.GateAllows(nil, ruleOf("1 . . ."), actOf("1 job dev b")) || !impl.GateAllows(nil, ruleOf("1 . dev ."), actOf("1 job dev b")) || impl.GateAllows(nil, ruleOf("1 . dev ."), actOf("1 job lab b")) {
		t.Error("without teams")
	}
}

func TestAllowsAnyAct(t *testing.T) {
	all := ruleOf("12345 . . .")
	for _, verb := range []int{math.MinInt, math.MinInt32, -256, -64, -63, -8, -5, -1, 0, 6, 7, 8, 31, 32, 63, 64, 65, 69, 128, 257, 261, 1 << 32, 1<<32 + 1, math.MaxInt} {
		if impl.GateAllows(rightTeams(), all, impl.GateAct{Verb: verb, Kind: "job", Team: "dev", Name: "b"}) {
			t.Errorf("the verb %d", verb)
		}
	}
	for _, text := range oddTexts() {
		for name, act := range map[string]impl.GateAct{
			"Kind": {Verb: 1, Kind: text, Team: "dev", Name: "b"},
			"Team": {Verb: 1, Kind: "job", Team: text, Name: "b"},
			"Name": {Verb: 1, Kind: "job", Team: "dev", Name: text},
			"all":  {Verb: 1, Kind: text, Team: text, Name: text},
		} {
			if !impl.GateAllows(rightTeams(), all, act) {
				t.Errorf("%s %.20q is not allowed", name, text)
			}
			if impl.GateAllows(rightTeams(), ruleOf("1 job dev b"), act) {
				t.Errorf("%s %.20q is allowed", name, text)
			}
		}
		act := impl.GateAct{Verb: 1, Kind: "job", Team: "lab", Name: "b" + text}
		if !impl.GateAllows(rightTeams(), ruleOf("1 job dev b"), act) {
			t.Errorf("a Name with %.20q behind the prefix", text)
		}
	}
}

// Each of these would allow the act, were it ok.
func TestAllowsNotOk(t *testing.T) {
	act := actOf("1 job dev b")
	for why, teams := range badTeams() {
		for _, rule := range []string{"1 . . .", "1 job dev b"} {
			if impl.GateAllows(teams, ruleOf(rule), act) {
				t.Errorf("teams, %s: %s", why, rule)
			}
		}
	}
	for why, r := range badRules() {
		for verb := range 8 {
			if impl.GateAllows(rightTeams(), r, impl.GateAct{Verb: verb, Kind: r.Kind, Team: r.Team, Name: r.Prefix}) {
				t.Errorf("rule, %s: the verb %d", why, verb)
			}
		}
	}
}

// coverCase is rules, a rule, and the act that GateUncovered tells of it, empty if it is covered.
type coverCase struct{ rules, rule, act string }

func tryCovers(t *testing.T, teams []impl.GateTeam, cases []coverCase) {
	t.Helper()
	for _, c := range cases {
		rules, r := rulesOf(c.rules), ruleOf(c.rule)
		if got := impl.GateCovers(teams, rules, r); got != (c.act == "") {
			t.Errorf("%s of %s: covered %v", c.rule, c.rules, got)
		}
		var want impl.GateAct
		if c.act != "" {
			want = actOf(c.act)
			if !impl.GateAllows(teams, r, want) {
				t.Errorf("%s does not allow %s", c.rule, c.act)
			}
		}
		act, open := impl.GateUncovered(teams, rules, r)
		if open != (c.act != "") || act != want {
			t.Errorf("%s of %s: uncovered %v, %v", c.rule, c.rules, act, open)
		}
		slices.Reverse(rules)
		if again, still := impl.GateUncovered(teams, rules, r); again != act || still != open {
			t.Errorf("%s of %s, the last one first: uncovered %v, %v", c.rule, c.rules, again, still)
		}
	}
}

func TestCovers(t *testing.T) {
	longest := strings.Repeat("n", 16)
	tryCovers(t, rightTeams(), []coverCase{
		// By itself, by a wider one, by a narrower one, by none.
		{"13 job dev b", "13 job dev b", ""},
		{"12345 . . .", "13 job dev b", ""},
		{"12345 . . .", "12345 . . .", ""},
		{"13 . dev b", "13 job lab bb", ""},
		{"13 job lab bb", "13 . dev b", "1 k0 dev b"},
		{"", "13 job dev b", "1 job dev b"},
		{"", "45 . . .", "4 k0 t0 ."},
		// Verbs: the first of which there is none, and several of the rules together, a verb each.
		{"1 . . .", "13 job dev b", "3 job dev b"},
		{"3 . . .", "13 job dev b", "1 job dev b"},
		{"2345 . . .", "12345 job dev b", "1 job dev b"},
		{"1345 . . .", "12345 job dev b", "2 job dev b"},
		{"1245 . . .", "12345 job dev b", "3 job dev b"},
		{"1235 . . .", "12345 job dev b", "4 job dev b"},
		{"1234 . . .", "12345 job dev b", "5 job dev b"},
		{"15 . . .", "12345 job dev b", "2 job dev b"},
		{"1 . . .; 3 . lab .", "13 job lab bb", ""},
		{"1 . . .; 2 job . .; 3 . dev .; 4 . . b; 5 job dev b", "12345 job lab bb", ""},
		{"1 . . .; 2 job . .; 3 . dev .; 4 . . c; 5 job dev b", "12345 job lab bb", "4 job lab bb"},
		{"1 . . .; 2 jo . .; 3 . ops .; 4 . . c; 5 job dev b", "12345 job lab bb", "2 job lab bb"},
		{"12 . . .; 23 . . .", "123 . . .", ""},
		{"12 . . .; 12 . . .; 45 . . .", "1245 . . .", ""},
		// One verb takes one of the rules alone: two halves do not make a whole.
		{"1 job . .; 1 . dev .; 1 . . b", "1 . . .", "1 k0 t0 ."},
		{"1 . dev .; 1 . ops .; 1 . lone .; 1 . p0 .", "1 job . .", "1 job t0 ."},
		{"1 . dev c; 1 . lab d", "1 job lab .", "1 job lab ."},
		// Kind.
		{"1 job . .", "1 job . .", ""},
		{"1 . . .", "1 job . .", ""},
		{"1 job . .", "1 . . .", "1 k0 t0 ."},
		{"1 job . .", "1 berth . .", "1 berth t0 ."},
		{"1 jo . .", "1 job . .", "1 job t0 ."},
		// Team: one under it, one over it, four up; the empty one is covered by an empty one alone.
		{"1 . dev .", "1 . lab .", ""},
		{"1 . lab .", "1 . dev .", "1 k0 dev ."},
		{"1 . p0 .", "1 . p4 .", ""},
		{"1 . p4 .", "1 . p0 .", "1 k0 p0 ."},
		{"1 . ops .", "1 . lab .", "1 k0 lab ."},
		{"1 . sea .", "1 . sea .", ""},
		{"1 . sea .", "1 . dev .", "1 k0 dev ."},
		{"1 . dev .", "1 . sea .", "1 k0 sea ."},
		{"1 . . .", "1 . . .", ""},
		{"1 . dev .", "1 . . .", "1 k0 t0 ."},
		{"1 . sea .", "1 . . .", "1 k0 t0 ."},
		{"1 . dev .; 1 . . .", "1 . . .", ""},
		{"1 . dev .; 2 . . .", "12 . . .", "1 k0 t0 ."},
		{"1 . . .; 2 . dev .", "12 . . .", "2 k0 t0 ."},
		// Prefix.
		{"1 . . b", "1 . . b", ""},
		{"1 . . b", "1 . . bb", ""},
		{"1 . . bb", "1 . . b", "1 k0 t0 b"},
		{"1 . . b", "1 . . .", "1 k0 t0 ."},
		{"1 . . b", "1 . . ab", "1 k0 t0 ab"},
		{"1 . . " + longest, "1 . . " + longest, ""},
		{"1 . . " + longest, "1 . . " + longest[1:], "1 k0 t0 " + longest[1:]},
		{"1 . . " + longest[1:], "1 . . " + longest, ""},
	})
	tryCovers(t, nil, []coverCase{{"1 . dev .", "1 . dev .", ""}, {"1 . dev .", "1 . lab .", "1 k0 lab ."}, {"1 . . .", "1 . lab .", ""}, {"2 . . .", "1 . . .", "1 k0 t0 ."}})
}

func TestUncoveredFreeNames(t *testing.T) {
	tryCovers(t, rightTeams(), []coverCase{
		// Kinds that rules have, whichever verb, order and gaps.
		{"2 k0 . .", "1 . . .", "1 k1 t0 ."},
		{"1 k0 . .", "1 . . .", "1 k1 t0 ."},
		{"2 k1 . .", "1 . . .", "1 k0 t0 ."},
		{"2 k2 . .; 3 k0 . .; 4 k1 . .", "1 . . .", "1 k3 t0 ."},
		{"2 k0 . .; 3 k0 . .; 4 k2 . .", "1 . . .", "1 k1 t0 ."},
		{"1 k0 . .; 1 k1 . .; 1 k2 . .; 1 k3 . .; 1 k4 . .; 1 k5 . .; 1 k6 . .; 1 k7 . .; 1 k8 . .; 1 k9 . .", "1 . . .", "1 k10 t0 ."},
		{"1 k . .; 1 k00 . .; 1 k01 . .; 1 k-0 . .", "1 . . .", "1 k0 t0 ."},
		{"1 t0 . .; 1 t1 . .", "1 . . .", "1 k0 t0 ."},
		// A Kind or Team that the rule has is told, taken or not.
		{"2 k0 . .", "1 k0 . .", "1 k0 t0 ."},
		{"2 . t0 .", "1 . t0 .", "1 k0 t0 ."},
		{"1 . t1 .", "1 . t0 .", "1 k0 t0 ."},
		{"1 k1 t1 .", "1 k0 t0 .", "1 k0 t0 ."},
		// Teams that rules have.
		{"2 . t0 .", "1 . . .", "1 k0 t1 ."},
		{"1 . t0 .; 1 . t2 .; 1 . t1 .", "1 . . .", "1 k0 t3 ."},
		{"1 . t0 .; 1 . t2 .; 1 . k1 .", "1 job . .", "1 job t1 ."},
		{"1 k0 t0 .; 1 k1 t0 .", "1 . . b", "1 k2 t1 b"},
	})
	tryCovers(t, teamsOf("t0 t1 t3"), []coverCase{
		// Teams that there are, and those that rules have besides.
		{"", "1 . . .", "1 k0 t2 ."},
		{"2 . t2 .", "1 . . .", "1 k0 t4 ."},
		{"2 . t0 .", "1 . . .", "1 k0 t2 ."},
		{"2 . t4 .", "1 . . .", "1 k0 t2 ."},
		{"2 k0 . .; 2 t2 t2 .", "1 . . .", "1 k1 t4 ."},
		{"2 . . .", "1 . t0 .", "1 k0 t0 ."},
	})
	tryCovers(t, teamsOf("t0<t1 t1<t2 t2"), []coverCase{{"", "1 . . .", "1 k0 t3 ."}, {"1 . t3 .", "1 . . .", "1 k0 t4 ."}})
	tryCovers(t, teamsOf("k0 k1 t1"), []coverCase{{"", "1 . . .", "1 k0 t0 ."}, {"1 k0 t0 .", "1 . . .", "1 k1 t2 ."}})
}

// No bound is set on how many rules are handed in.
func TestCoversManyRules(t *testing.T) {
	var rules []impl.GateRule
	for i := range 100000 {
		rules = append(rules, impl.GateRule{Verbs: []int{1, 2, 3, 4}, Kind: "k" + strconv.Itoa(i), Team: "t" + strconv.Itoa(99999-i)})
	}
	all := ruleOf("12345 . . .")
	if act, open := impl.GateUncovered(nil, rules, all); !open || act != (impl.GateAct{Verb: 1, Kind: "k100000", Team: "t100000"}) {
		t.Error(act, open)
	}
	if !impl.GateCovers(nil, append(rules, all), all) || impl.GateCovers(nil, rules, all) || impl.GateCovers(nil, append(rules, impl.GateRule{}, all), all) {
		t.Error("very many rules")
	}
}

func TestCoversNotOk(t *testing.T) {
	wide, r := ruleOf("12345 . . ."), ruleOf("1 job dev b")
	never := func(why string, teams []impl.GateTeam, rules []impl.GateRule, r impl.GateRule) {
		t.Helper()
		if impl.GateCovers(teams, rules, r) {
			t.Errorf("%s: covered", why)
		}
		if act, open := impl.GateUncovered(teams, rules, r); open || act != (impl.GateAct{}) {
			t.Errorf("%s: uncovered %v, %v", why, act, open)
		}
	}
	for why, teams := range badTeams() {
		never("teams, "+why, teams, []impl.GateRule{wide}, r)
		never("teams, "+why, teams, []impl.GateRule{r}, wide)
		never("teams, "+why, teams, nil, wide)
	}
	for why, bad := range badRules() {
		never("r, "+why, rightTeams(), []impl.GateRule{wide}, bad)
		never("r, "+why, rightTeams(), []impl.GateRule{bad}, bad)
		never("r, "+why, rightTeams(), nil, bad)
		for _, rules := range [][]impl.GateRule{{bad}, {bad, wide}, {wide, bad}, {wide, wide, bad, wide}} {
			never("rules, "+why, rightTeams(), rules, r)
			never("rules, "+why, rightTeams(), rules, wide)
		}
	}
}

// roomyRule is a rule with room behind its verbs, in which nobody may write.
func roomyRule(text string) impl.GateRule {
	r := ruleOf(text)
	out := append(slices.Clone(r.Verbs), -77, -77)
	r.Verbs = out[:len(r.Verbs):len(out)]
	return r
}

func copyRules(list []impl.GateRule) []impl.GateRule {
	out := slices.Clone(list)
	for i := range out {
		verbs := out[i].Verbs
		out[i].Verbs = slices.Clone(verbs[:cap(verbs)])[:len(verbs)]
	}
	return out
}

// sameRules looks behind the ends of the verbs, too.
func sameRules(a, b []impl.GateRule) bool {
	return reflect.DeepEqual(wholeVerbs(a), wholeVerbs(b)) && reflect.DeepEqual(a, b)
}

func wholeVerbs(list []impl.GateRule) [][]int {
	var out [][]int
	for _, r := range list {
		out = append(out, slices.Concat(r.Verbs[:min(cap(r.Verbs), len(r.Verbs)+2)]))
	}
	return out
}

func TestRightsWriteNothing(t *testing.T) {
	teamLists := badTeams()
	teamLists["good"], teamLists["none"] = rightTeams(), nil
	for why, teams := range teamLists {
		for _, texts := range [][]string{nil, {"1 . . ."}, {"13 job dev b", "2 k0 t0 ."}, {"21 . . .", "1 job dev b"}, {"1 JOB . .", "3 . . ."}} {
			room := append(slices.Clone(teams), impl.GateTeam{Name: spare})
			was := slices.Clone(room)
			teams := room[:len(teams)]
			rules := []impl.GateRule{}
			for _, text := range texts {
				rules = append(rules, roomyRule(text))
			}
			rules = append(rules, impl.GateRule{Kind: spare})
			for _, text := range []string{"13 job lab bb", "12345 . . .", "51 . . .", "1 . . B"} {
				r := roomyRule(text)
				all := append(slices.Clone(rules), r)
				wasRules := copyRules(all)
				act := actOf("1 job lab bb")
				impl.GateUnder(teams, "lab", "dev")
				impl.GateTeamsOk(teams)
				impl.GateAllows(teams, r, act)
				impl.GateCovers(teams, rules[:len(texts)], r)
				impl.GateUncovered(teams, rules[:len(texts)], r)
				if !reflect.DeepEqual(room, was) {
					t.Errorf("%s: the teams were changed: %v", why, room)
				}
				if all = append(slices.Clone(rules), r); !sameRules(all, wasRules) {
					t.Errorf("%s: the rules were changed: %v, not %v", why, all, wasRules)
				}
			}
		}
	}
}

// A rule may be handed in twice, as one of the rules and by itself, with one list of verbs.
func TestRightsShared(t *testing.T) {
	r := roomyRule("135 job dev b")
	part := r
	part.Verbs = r.Verbs[:2]
	if !impl.GateCovers(rightTeams(), []impl.GateRule{r, r}, r) || !impl.GateCovers(rightTeams(), []impl.GateRule{r}, part) || impl.GateCovers(rightTeams(), []impl.GateRule{part}, r) {
		t.Error("covers")
	}
	if act, open := impl.GateUncovered(rightTeams(), []impl.GateRule{part}, r); !open || act != actOf("5 job dev b") {
		t.Error(act, open)
	}
}
