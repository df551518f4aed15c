package tests

import (
	"math/rand"
	"regexp"
	"slices"
	"strconv"
	"strings"
	"testing"

	"loop.example/wharfgate/impl"
)

// The document's words of chapter 4 a second time, and promise 3 held against all acts of a small world.

var prefixForm = regexp.MustCompile(`\A[a-z0-9-]{0,16}\z`)

// saidOvers is the names that are met on the way up from a name, at most so many.
func saidOvers(teams []impl.GateTeam, name string, most int) []string {
	at := slices.IndexFunc(teams, func(t impl.GateTeam) bool { return t.Name == name })
	if most == 0 || at < 0 || teams[at].Over == "" {
		return nil
	}
	return append([]string{teams[at].Over}, saidOvers(teams, teams[at].Over, most-1)...)
}

func saidUnder(teams []impl.GateTeam, a, b string) bool {
	return slices.Contains(append([]string{a}, saidOvers(teams, a, 4)...), b)
}

func saidTeamsOk(teams []impl.GateTeam) bool {
	var names []string
	for _, t := range teams {
		names = append(names, t.Name)
	}
	if len(names) > 12 || !saidAscendingNames(names) {
		return false
	}
	return !slices.ContainsFunc(teams, func(t impl.GateTeam) bool {
		return t.Over != "" && !slices.Contains(names, t.Over) || len(saidOvers(teams, t.Name, 100)) > 4
	})
}

func saidRuleOk(r impl.GateRule) bool {
	sorted := slices.Compact(slices.Sorted(slices.Values(r.Verbs)))
	if len(r.Verbs) == 0 || !slices.Equal(sorted, r.Verbs) || sorted[0] < 1 || sorted[len(sorted)-1] > 5 {
		return false
	}
	return (r.Kind == "" || nameForm.MatchString(r.Kind)) && (r.Team == "" || nameForm.MatchString(r.Team)) && prefixForm.MatchString(r.Prefix)
}

func saidAllows(teams []impl.GateTeam, r impl.GateRule, a impl.GateAct) bool {
	return saidTeamsOk(teams) && saidRuleOk(r) && slices.Contains(r.Verbs, a.Verb) && (r.Kind == "" || r.Kind == a.Kind) &&
		(r.Team == "" || saidUnder(teams, a.Team, r.Team)) && len(a.Name) >= len(r.Prefix) && a.Name[:len(r.Prefix)] == r.Prefix
}

// saidOpenVerb is the first verb of a rule for which there is none of rules, 0 if there is none such.
func saidOpenVerb(teams []impl.GateTeam, rules []impl.GateRule, r impl.GateRule) int {
	for _, verb := range r.Verbs {
		if !slices.ContainsFunc(rules, func(q impl.GateRule) bool {
			return slices.Contains(q.Verbs, verb) && (q.Kind == "" || q.Kind == r.Kind) &&
				(q.Team == "" || r.Team != "" && saidUnder(teams, r.Team, q.Team)) && strings.Index(r.Prefix, q.Prefix) == 0
		}) {
			return verb
		}
	}
	return 0
}

func saidRightsOk(teams []impl.GateTeam, rules []impl.GateRule) bool {
	return saidTeamsOk(teams) && !slices.ContainsFunc(rules, func(r impl.GateRule) bool { return !saidRuleOk(r) })
}

func saidUncovered(teams []impl.GateTeam, rules []impl.GateRule, r impl.GateRule) (impl.GateAct, bool) {
	verb := saidOpenVerb(teams, rules, r)
	if !saidRightsOk(teams, append(slices.Clone(rules), r)) || verb == 0 {
		return impl.GateAct{}, false
	}
	act := impl.GateAct{Verb: verb, Kind: r.Kind, Team: r.Team, Name: r.Prefix}
	for n := 0; act.Kind == ""; n++ {
		kind := "k" + strconv.Itoa(n)
		if !slices.ContainsFunc(rules, func(q impl.GateRule) bool { return q.Kind == kind }) {
			act.Kind = kind
		}
	}
	for n := 0; act.Team == ""; n++ {
		team := "t" + strconv.Itoa(n)
		if !slices.ContainsFunc(rules, func(q impl.GateRule) bool { return q.Team == team }) && !slices.ContainsFunc(teams, func(t impl.GateTeam) bool { return t.Name == team }) {
			act.Team = team
		}
	}
	return act, true
}

// teams is mostly ok; loose lets a team stand in any other one, or in none that there is.
func (c chance) teams() []impl.GateTeam {
	names := []string{"dev", "lab", "ops", "t0", "t1", "t2", "z"}
	loose := c.oneIn(4)
	var list []impl.GateTeam
	for _, name := range names {
		if c.oneIn(4) {
			continue
		}
		t := impl.GateTeam{Name: c.text(name)}
		if loose {
			t.Over = c.text(append(names, "", "")...)
		} else if len(list) > 0 && !c.oneIn(3) {
			t.Over = list[c.Intn(len(list))].Name
		}
		list = append(list, t)
	}
	if c.oneIn(40) {
		c.Shuffle(len(list), func(i, j int) { list[i], list[j] = list[j], list[i] })
	}
	return list
}

func (c chance) rule() impl.GateRule {
	r := impl.GateRule{Kind: c.text("", "", "job", "k0", "k1"), Team: c.text("", "", "dev", "lab", "ops", "t0", "t1", "t2", "sea"), Prefix: c.text("", "", "b", "bb", "bc", "c")}
	for verb := 1; verb <= 5; verb++ {
		if c.oneIn(2) {
			r.Verbs = append(r.Verbs, verb)
		}
	}
	if len(r.Verbs) == 0 && !c.oneIn(8) {
		r.Verbs = []int{1 + c.Intn(5)}
	}
	if c.oneIn(60) {
		r.Verbs = append(r.Verbs, c.Intn(8)-1)
	}
	return r
}

func (c chance) rules(most int) []impl.GateRule {
	var list []impl.GateRule
	for range c.Intn(most + 1) {
		list = append(list, c.rule())
	}
	return list
}

// narrowed is a rule that gives no more than the given one does, and mostly less.
func (c chance) narrowed(teams []impl.GateTeam, r impl.GateRule) impl.GateRule {
	out := r
	out.Verbs = nil
	for _, verb := range r.Verbs {
		if !c.oneIn(3) {
			out.Verbs = append(out.Verbs, verb)
		}
	}
	if len(out.Verbs) == 0 {
		out.Verbs = slices.Clone(r.Verbs)
	}
	if out.Kind == "" {
		out.Kind = c.text("", "job", "k0")
	}
	if len(teams) > 0 && c.oneIn(2) {
		if team := teams[c.Intn(len(teams))].Name; r.Team == "" || saidUnder(teams, team, r.Team) {
			out.Team = team
		}
	}
	out.Prefix += c.text("", "", "b", "c")
	return out
}

// allActs is every act of a small world, in which for each rule that is drawn there is a kind and a team that it does not name.
func allActs(call func(a impl.GateAct)) {
	for verb := 0; verb <= 6; verb++ {
		for _, kind := range []string{"", "job", "k0", "k1", "k2"} {
			for _, team := range []string{"", "dev", "lab", "ops", "t0", "t1", "t2", "z", "sea", "t3", "t4"} {
				for _, name := range []string{"", "b", "bb", "bc", "c", "bbb", "cc", "x"} {
					call(impl.GateAct{Verb: verb, Kind: kind, Team: team, Name: name})
				}
			}
		}
	}
}

func allowedByOne(teams []impl.GateTeam, rules []impl.GateRule, a impl.GateAct) bool {
	return slices.ContainsFunc(rules, func(r impl.GateRule) bool { return impl.GateAllows(teams, r, a) })
}

func TestRightsAsSaid(t *testing.T) {
	t.Parallel()
	c := chance{rand.New(rand.NewSource(4))}
	seen := map[string]int{}
	for range 60000 {
		teams, rules, r := c.teams(), c.rules(5), c.rule()
		if c.oneIn(3) && len(rules) > 0 {
			r = c.narrowed(teams, rules[0])
		}
		ok := saidTeamsOk(teams)
		if got := impl.GateTeamsOk(teams); got != ok {
			t.Fatalf("GateTeamsOk %v: %v", got, teams)
		}
		seen["teams "+strconv.FormatBool(ok)]++
		a, b := c.text("", "dev", "lab", "ops", "t0", "t1", "t2", "z", "sea"), c.text("", "dev", "lab", "ops", "t0", "t1", "t2", "z", "sea")
		under := saidUnder(teams, a, b)
		if got := impl.GateUnder(teams, a, b); got != under {
			t.Fatalf("GateUnder %v: %q under %q in %v", got, a, b, teams)
		}
		if a != b {
			seen["under "+strconv.FormatBool(under)]++
		}
		act := impl.GateAct{Verb: c.number(7), Kind: c.text("", "job", "job", "k0"), Team: a, Name: c.text("", "b", "bb", "c", "bbb")}
		allows := saidAllows(teams, r, act)
		if got := impl.GateAllows(teams, r, act); got != allows {
			t.Fatalf("GateAllows %v: %v by %v in %v", got, act, r, teams)
		}
		seen["allows "+strconv.FormatBool(allows)]++
		rightsOk := saidRightsOk(teams, append(slices.Clone(rules), r))
		want, open := saidUncovered(teams, rules, r)
		if got, told := impl.GateUncovered(teams, rules, r); got != want || told != open {
			t.Fatalf("GateUncovered %v, %v, not %v, %v: %v of %v in %v", got, told, want, open, r, rules, teams)
		}
		if got := impl.GateCovers(teams, rules, r); got != (rightsOk && !open) {
			t.Fatalf("GateCovers %v: %v of %v in %v", got, r, rules, teams)
		}
		switch {
		case !rightsOk:
			seen["not ok"]++
		case open:
			seen["open"]++
		default:
			seen["covered"]++
		}
	}
	comesUp(t, seen, 500, "teams true", "teams false", "under true", "under false", "allows true", "allows false", "not ok", "open", "covered")
}

// comesUp asks that the draws brought each of these often enough to mean something.
func comesUp(t *testing.T, seen map[string]int, least int, whats ...string) {
	t.Helper()
	for _, what := range whats {
		if seen[what] < least {
			t.Errorf("%s came up %d times only", what, seen[what])
		}
	}
}

// drawnRights is teams and rules that are all ok.
func (c chance) drawnRights(most int) ([]impl.GateTeam, []impl.GateRule) {
	for {
		if teams, rules := c.teams(), c.rules(most); saidRightsOk(teams, rules) {
			return teams, rules
		}
	}
}

// Promise 3: a covered rule allows nothing that none of the rules does; of one that is not covered, the act that is told tells them apart.
func TestCoversIsSoundAndWhole(t *testing.T) {
	t.Parallel()
	c := chance{rand.New(rand.NewSource(5))}
	seen := map[string]int{}
	for range 1500 {
		teams, rules := c.drawnRights(4)
		r := c.rule()
		if len(rules) > 0 && !c.oneIn(4) {
			r = c.narrowed(teams, rules[0])
		}
		if len(rules) > 1 && c.oneIn(3) {
			r.Verbs = slices.Compact(slices.Sorted(slices.Values(slices.Concat(rules[0].Verbs, rules[1].Verbs))))
		}
		if !saidRuleOk(r) {
			continue
		}
		covered := impl.GateCovers(teams, rules, r)
		apart := 0
		allActs(func(a impl.GateAct) {
			if impl.GateAllows(teams, r, a) && !allowedByOne(teams, rules, a) {
				apart++
				if covered {
					t.Fatalf("%v is covered, but none of %v allows %v in %v", r, rules, a, teams)
				}
			}
		})
		act, open := impl.GateUncovered(teams, rules, r)
		if open == covered {
			t.Fatalf("covered %v and uncovered %v: %v of %v in %v", covered, open, r, rules, teams)
		}
		if open && (!impl.GateAllows(teams, r, act) || allowedByOne(teams, rules, act)) {
			t.Fatalf("%v does not tell %v and %v apart in %v", act, r, rules, teams)
		}
		seen["covered "+strconv.FormatBool(covered)]++
		if covered && saidOpenVerb(teams, rules[:1], r) != 0 {
			seen["by several together"]++
		}
		if apart > 0 && apart < 20 {
			seen["a few acts apart"]++
		}
	}
	comesUp(t, seen, 30, "covered true", "covered false", "by several together", "a few acts apart")
}

// Promise 3: what is covered by rules that are covered is covered.
func TestCoversLeadsOn(t *testing.T) {
	t.Parallel()
	c := chance{rand.New(rand.NewSource(6))}
	seen := map[string]int{}
	for range 60000 {
		teams, first := c.drawnRights(4)
		if len(first) == 0 {
			continue
		}
		var middle []impl.GateRule
		for range 1 + c.Intn(3) {
			middle = append(middle, c.narrowed(teams, first[c.Intn(len(first))]))
		}
		if c.oneIn(4) {
			middle = append(middle, c.rule())
		}
		last := c.narrowed(teams, middle[0])
		if c.oneIn(2) {
			last = c.rule()
		}
		if len(middle) > 1 && c.oneIn(2) {
			last.Verbs = slices.Compact(slices.Sorted(slices.Values(slices.Concat(last.Verbs, middle[1].Verbs))))
		}
		carried := !slices.ContainsFunc(middle, func(r impl.GateRule) bool { return !impl.GateCovers(teams, first, r) })
		if !carried || !impl.GateCovers(teams, middle, last) {
			seen["not led on"]++
			continue
		}
		if !impl.GateCovers(teams, first, last) {
			t.Fatalf("%v is covered by %v, those by %v, but it is not by these in %v", last, middle, first, teams)
		}
		seen["led on"]++
		if saidOpenVerb(teams, middle[:1], last) != 0 {
			seen["led on by several"]++
		}
	}
	comesUp(t, seen, 500, "led on", "led on by several", "not led on")
}
