package tests

import (
	"fmt"
	"math/rand"
	"slices"
	"strconv"
	"strings"
	"testing"

	"loop.example/wharfgate/impl"
)

// The document's words of chapter 5 a second time, held against the program on drawn laws and books.

func saidLawOk(l impl.GateLaw) bool {
	return saidMendsOk(l.Shapes, l.Mends) && saidTeamsOk(l.Teams)
}

func saidWeighs(l impl.GateLaw, o impl.GateObject, resource string) int {
	at := slices.IndexFunc(l.Shapes, func(s impl.GateShape) bool { return s.Kind == o.Kind })
	if resource == "" || at < 0 || len(l.Shapes[at].Fields) != len(o.Values) {
		return 0
	}
	sum := map[bool]int{true: 1}[resource == o.Kind]
	for i, value := range o.Values {
		if f := l.Shapes[at].Fields[i]; f.Kind == 1 && f.Weighs == resource && decimalForm.MatchString(value) {
			n, _ := strconv.Atoi(value)
			sum += n
		}
	}
	return sum
}

func saidUsed(l impl.GateLaw, b impl.GateBook, team, resource string) int {
	sum := 0
	for _, o := range b.Objects {
		if saidUnder(l.Teams, o.Team, team) {
			sum += saidWeighs(l, o, resource)
		}
	}
	return sum
}

func saidShaped(l impl.GateLaw, o impl.GateObject) impl.GateObject {
	for _, s := range l.Shapes {
		if s.Kind == o.Kind && len(s.Fields) == len(o.Values) {
			row, _ := firstRow(s, l.Mends)
			return saidMended(s, l.Mends, saidFill(l.Shapes, o), row)
		}
	}
	return o
}

// saidAscending is asked of keys that are lists of texts.
func saidAscending(keys [][]string) bool {
	return slices.EqualFunc(keys, slices.CompactFunc(slices.SortedFunc(slices.Values(keys), slices.Compare), slices.Equal), slices.Equal)
}

func saidFault(l impl.GateLaw, b impl.GateBook) string {
	if !saidLawOk(l) {
		return "law"
	}
	if b.Now < 0 || b.Now > 1000000 || b.Tick < 0 || b.Tick > 1000000 || b.Given < 0 || b.Given > b.Now {
		return "counts"
	}
	for _, part := range []struct {
		name  string
		fault bool
	}{
		{"objects", len(b.Objects) > 40 || saidObjectsFault(l, b)}, {"grants", len(b.Grants) > 24 || saidGrantsFault(b)},
		{"ledgers", len(b.Ledgers) > 10 || saidLedgersFault(l, b)}, {"purses", len(b.Purses) > 24 || saidPursesFault(b)},
	} {
		if part.fault {
			return part.name
		}
	}
	for _, g := range b.Ledgers {
		left := g.Most - g.Free - saidUsed(l, b, g.Team, g.Resource)
		for _, p := range b.Purses {
			if p.Team == g.Team && p.Resource == g.Resource {
				left -= p.Amount
			}
		}
		if left != 0 {
			return "sums"
		}
	}
	return ""
}

func saidBookOk(l impl.GateLaw, b impl.GateBook) bool { return saidFault(l, b) == "" }

func saidObjectsFault(l impl.GateLaw, b impl.GateBook) bool {
	var keys [][]string
	for _, o := range b.Objects {
		keys = append(keys, []string{o.Kind, o.Name})
		code, _ := saidCheck(l.Shapes, o)
		if code != 0 || !slices.ContainsFunc(l.Teams, func(t impl.GateTeam) bool { return t.Name == o.Team }) || o.Version < 1 || o.Version > b.Now {
			return true
		}
		if !slices.Equal(saidShaped(l, o).Values, o.Values) || saidLoose(l, b, o) {
			return true
		}
	}
	return !saidAscending(keys)
}

// saidLoose says whether a link names nothing.
func saidLoose(l impl.GateLaw, b impl.GateBook, o impl.GateObject) bool {
	for _, s := range l.Shapes {
		for i, f := range s.Fields {
			if s.Kind == o.Kind && f.Kind == 4 && o.Values[i] != "" && !slices.ContainsFunc(b.Objects, func(q impl.GateObject) bool { return q.Kind == f.To && q.Name == o.Values[i] }) {
				return true
			}
		}
	}
	return false
}

func saidGrantsFault(b impl.GateBook) bool {
	var numbers []int
	for _, g := range b.Grants {
		numbers = append(numbers, g.Number)
		if g.Number < 1 || g.Number > b.Given || !nameForm.MatchString(g.To) || g.By != "" && !nameForm.MatchString(g.By) || !saidRuleOk(g.Rule) {
			return true
		}
	}
	return !slices.Equal(numbers, slices.Compact(slices.Sorted(slices.Values(numbers))))
}

func saidLedgersFault(l impl.GateLaw, b impl.GateBook) bool {
	var keys [][]string
	for _, g := range b.Ledgers {
		keys = append(keys, []string{g.Team, g.Resource})
		if !slices.ContainsFunc(l.Teams, func(t impl.GateTeam) bool { return t.Name == g.Team }) || !nameForm.MatchString(g.Resource) || g.Free < 0 || g.Free > g.Most || g.Most > 1000000 {
			return true
		}
	}
	return !saidAscending(keys)
}

func saidPursesFault(b impl.GateBook) bool {
	var keys [][]string
	for _, p := range b.Purses {
		keys = append(keys, []string{p.Door, p.Team, p.Resource})
		if !slices.ContainsFunc(b.Ledgers, func(g impl.GateLedger) bool { return g.Team == p.Team && g.Resource == p.Resource }) {
			return true
		}
		if !nameForm.MatchString(p.Door) || p.Amount < 1 || p.Amount > 1000000 || p.Until < b.Tick || p.Until > b.Tick+10 {
			return true
		}
	}
	return !saidAscending(keys)
}

// law is mostly ok: three kinds, one of them a resource too, whose fields weigh and name each other.
func (c chance) law() impl.GateLaw {
	for {
		l := impl.GateLaw{Teams: c.teams()}
		for _, kind := range []string{"a", "b", "c"} {
			s := impl.GateShape{Kind: kind}
			for i := range c.Intn(5) {
				s.Fields = append(s.Fields, c.lawField("f"+strconv.Itoa(i)))
			}
			l.Shapes = append(l.Shapes, s)
		}
		l.Mends = c.mends(l.Shapes)
		if saidLawOk(l) || c.oneIn(60) {
			return l
		}
	}
}

func (c chance) lawField(name string) impl.GateField {
	f := []impl.GateField{
		{Kind: 1, Most: 3, Default: "2"}, {Kind: 1, Most: 2}, {Kind: 1, Least: 1, Most: 3, Must: true}, {Kind: 2, Words: []string{"1", "2", "a"}, Default: "a"},
		{Kind: 3, Least: 1, Most: 2}, {Kind: 4, Role: 1}, {Kind: 4, Role: 2}, {Kind: 4, Role: 3},
	}[c.Intn(8)]
	f.Name = name
	if f.Kind == 1 {
		f.Weighs = []string{"", "w", "w", "v", "a"}[c.Intn(5)]
	}
	if f.Kind == 4 {
		f.To = []string{"a", "b", "c"}[c.Intn(3)]
	}
	return f
}

// book is ok if the law is and has teams.
func (c chance) book(l impl.GateLaw) impl.GateBook {
	b := impl.GateBook{Now: 10 + c.Intn(9), Tick: c.Intn(30), Given: c.Intn(9)}
	if !saidLawOk(l) || len(l.Teams) == 0 {
		return b
	}
	for _, s := range l.Shapes {
		for _, name := range []string{"p", "q", "r"} {
			if !c.oneIn(3) {
				b.Objects = append(b.Objects, saidShaped(l, c.bookObject(l, s, name, b.Now)))
			}
		}
	}
	b.Objects = settled(l, b)
	for n := 1; n <= b.Given; n++ {
		if r := c.rule(); saidRuleOk(r) && c.oneIn(2) {
			b.Grants = append(b.Grants, impl.GateGrant{Number: n, To: c.who(), By: []string{"", "ann"}[c.Intn(2)], Rule: r})
		}
	}
	for _, t := range l.Teams {
		for _, resource := range []string{"a", "v", "w", "x"} {
			if c.oneIn(5) && len(b.Ledgers) < 10 {
				b.Ledgers = append(b.Ledgers, impl.GateLedger{Team: t.Name, Resource: resource, Free: c.Intn(20)})
			}
		}
	}
	for _, door := range []string{"d1", "d2"} {
		for _, g := range b.Ledgers {
			if c.oneIn(2) && len(b.Purses) < 24 {
				b.Purses = append(b.Purses, impl.GatePurse{Door: door, Team: g.Team, Resource: g.Resource, Amount: 1 + c.Intn(9), Until: b.Tick + c.Intn(11)})
			}
		}
	}
	balance(l, &b)
	return b
}

func (c chance) who() string { return []string{"ann", "bob", "cy"}[c.Intn(3)] }

func (c chance) bookObject(l impl.GateLaw, s impl.GateShape, name string, now int) impl.GateObject {
	o := impl.GateObject{Kind: s.Kind, Name: name, Team: l.Teams[c.Intn(len(l.Teams))].Name, Version: 1 + c.Intn(now), Ending: c.oneIn(4)}
	for _, f := range s.Fields {
		values := []string{"", "1", "2", "3"}
		if f.Kind == 4 {
			values = []string{"", "p", "q", "r"}
		}
		o.Values = append(o.Values, values[c.Intn(4)])
	}
	if c.oneIn(4) {
		o.Holds = []string{"h", "k"}[:1+c.Intn(2)]
	}
	return o
}

// settled leaves out what has a fault or names nothing, until nothing does.
func settled(l impl.GateLaw, b impl.GateBook) []impl.GateObject {
	for {
		var stay []impl.GateObject
		for _, o := range b.Objects {
			if code, _ := saidCheck(l.Shapes, o); code == 0 && !saidLoose(l, b, o) {
				stay = append(stay, o)
			}
		}
		if len(stay) == len(b.Objects) {
			return stay
		}
		b.Objects = stay
	}
}

// balance gives each ledger the Most that its sum asks for.
func balance(l impl.GateLaw, b *impl.GateBook) {
	for i, g := range b.Ledgers {
		b.Ledgers[i].Most = g.Free + saidUsed(l, *b, g.Team, g.Resource)
		for _, p := range b.Purses {
			if p.Team == g.Team && p.Resource == g.Resource {
				b.Ledgers[i].Most += p.Amount
			}
		}
	}
}

// unsettle turns one small thing of a book, which may be ok then or not.
func (c chance) unsettle(b *impl.GateBook) {
	step := 1 - 2*c.Intn(2)
	turns := []func(){
		func() { b.Now += step * c.Intn(12) }, func() { b.Tick += step * c.Intn(12) }, func() { b.Given += step * c.Intn(12) },
	}
	if len(b.Objects) > 0 {
		at := c.Intn(len(b.Objects))
		o := &b.Objects[at]
		turns = append(turns, func() { o.Version += step * c.Intn(12) }, func() { o.Name = c.text("p", "q", "r", "s") }, func() { o.Kind = c.text("a", "b", "c") },
			func() { o.Team = c.text("dev", "lab", "ops", "t0", "none") }, func() { o.Values = append(slices.Clone(o.Values), "1") },
			func() { b.Objects = slices.Delete(slices.Clone(b.Objects), at, at+1) }, func() { b.Objects = slices.Insert(slices.Clone(b.Objects), at, *o) })
		if len(o.Values) > 0 {
			turns = append(turns, slices.Repeat([]func(){func() { o.Values[c.Intn(len(o.Values))] = c.text("", "0", "1", "2", "3", "a", "p", "q", "r") }}, 4)...)
		}
	}
	if len(b.Grants) > 0 {
		g := &b.Grants[c.Intn(len(b.Grants))]
		turns = append(turns, func() { g.Number += step }, func() { g.To = c.text("", "zoe") }, func() { g.By = c.text("", "zoe") }, func() { g.Rule = c.rule() })
	}
	if len(b.Ledgers) > 0 {
		g := &b.Ledgers[c.Intn(len(b.Ledgers))]
		turns = append(turns, func() { g.Free += step }, func() { g.Most += step }, func() { g.Free += step; g.Most += step }, func() { g.Free, g.Most = -1, g.Most-g.Free-1 },
			func() { g.Team = c.text("dev", "lab", "ops", "t0", "none") }, func() { g.Resource = c.text("a", "v", "w", "x") })
	}
	if len(b.Purses) > 0 {
		p := &b.Purses[c.Intn(len(b.Purses))]
		turns = append(turns, func() { p.Amount += step }, func() { p.Until += step * c.Intn(12) }, func() { p.Door = c.text("d1", "d2", "d3") }, func() { p.Resource = c.text("a", "v", "w", "x") })
	}
	turns[c.Intn(len(turns))]()
}

func TestBooksAsSaid(t *testing.T) {
	t.Parallel()
	c := chance{rand.New(rand.NewSource(7))}
	seen := map[string]int{}
	for range 6000 {
		l := c.law()
		if got, want := impl.GateLawOk(l), saidLawOk(l); got != want {
			t.Fatalf("GateLawOk %v: %+v", got, l)
		}
		seen["law "+strconv.FormatBool(saidLawOk(l))]++
		b := c.book(l)
		if saidLawOk(l) && !saidBookOk(l, b) {
			t.Fatalf("the drawn book is not ok: %s of %+v by %+v", saidFault(l, b), b, l)
		}
		for range 4 {
			turned := withRoom(b)
			if !c.oneIn(4) {
				c.unsettle(&turned)
			}
			fault := saidFault(l, turned)
			if got := impl.GateBookOk(l, turned); got != (fault == "") {
				t.Fatalf("GateBookOk %v, the fault: %q of %+v by %+v", got, fault, turned, l)
			}
			seen["fault "+fault]++
			holdWeights(t, l, turned, seen)
		}
	}
	comesUp(t, seen, 300, "law true", "fault ", "fault objects", "fault grants", "fault ledgers", "fault purses", "fault sums", "weighs", "weighs nothing", "uses what is far under it")
	comesUp(t, seen, 50, "law false", "fault law", "fault counts")
}

func holdWeights(t *testing.T, l impl.GateLaw, b impl.GateBook, seen map[string]int) {
	t.Helper()
	for _, resource := range []string{"", "a", "v", "w", "x"} {
		for _, o := range b.Objects {
			want := saidWeighs(l, o, resource)
			if got := impl.GateWeighs(l, o, resource); got != want {
				t.Fatalf("GateWeighs %d, not %d of %q: %+v by %+v", got, want, resource, o, l)
			}
			if want > 0 {
				seen["weighs"]++
			} else {
				seen["weighs nothing"]++
			}
		}
		for _, team := range append([]string{"", "none"}, namesOf(l.Teams)...) {
			want := saidUsed(l, b, team, resource)
			if got := impl.GateUsed(l, b, team, resource); got != want {
				t.Fatalf("GateUsed %d, not %d of %q in %q: %+v by %+v", got, want, resource, team, b, l)
			}
			if want > 0 && !slices.ContainsFunc(b.Objects, func(o impl.GateObject) bool { return o.Team == team }) {
				seen["uses what is far under it"]++
			}
		}
	}
}

func namesOf(teams []impl.GateTeam) []string {
	var out []string
	for _, t := range teams {
		out = append(out, t.Name)
	}
	return out
}

// bookText is a book in short, to tell of one that is wrong.
func bookText(b impl.GateBook) string {
	var out strings.Builder
	fmt.Fprintf(&out, "now %d tick %d given %d", b.Now, b.Tick, b.Given)
	for _, o := range b.Objects {
		fmt.Fprintf(&out, "\n  object %+v", o)
	}
	for _, g := range b.Grants {
		fmt.Fprintf(&out, "\n  grant %+v", g)
	}
	for _, g := range b.Ledgers {
		fmt.Fprintf(&out, "\n  ledger %+v", g)
	}
	for _, p := range b.Purses {
		fmt.Fprintf(&out, "\n  purse %+v", p)
	}
	return out.String()
}
