package tests

import (
	"fmt"
	"math/rand"
	"slices"
	"strconv"
	"testing"

	"loop.example/wharfgate/impl"
)

// The document's words of chapter 8 a second time, and promises 10 and 12 held over drawn rows of asks.

func saidMay(l impl.GateLaw, b impl.GateBook, who string, a impl.GateAct) bool {
	return saidBookOk(l, b) && slices.ContainsFunc(b.Grants, func(g impl.GateGrant) bool { return g.To == who && saidAllows(l.Teams, g.Rule, a) })
}

// saidAskOk lays out what an ask would be that has nothing but what its verb uses, and asks that it is that.
func saidAskOk(l impl.GateLaw, a impl.GateAsk) bool {
	if !saidLawOk(l) || !nameForm.MatchString(a.Who) {
		return false
	}
	bare := impl.GateAsk{Who: a.Who, Verb: a.Verb}
	ok := false
	fields := -1
	for _, s := range l.Shapes {
		if s.Kind == a.Kind {
			fields = len(s.Fields)
		}
	}
	object := fields >= 0 && nameForm.MatchString(a.Name)
	if a.Verb >= 1 && a.Verb <= 4 {
		bare.Kind, bare.Name = a.Kind, a.Name
	}
	switch a.Verb {
	case 1:
		bare.Team, bare.Values, bare.Holds = a.Team, a.Values, a.Holds
		ok = object && slices.Contains(namesOf(l.Teams), a.Team) && len(a.Values) == fields && len(a.Holds) <= 3 && saidAscendingNames(a.Holds)
	case 2:
		bare.Values, bare.Seen = a.Values, a.Seen
		ok = object && len(a.Values) == fields && a.Seen >= 0
	case 3:
		bare.Seen = a.Seen
		ok = object && a.Seen >= 0
	case 4:
		bare.Hold = a.Hold
		ok = object && nameForm.MatchString(a.Hold)
	case 5:
		bare.To, bare.Rule = a.To, a.Rule
		ok = nameForm.MatchString(a.To) && saidRuleOk(a.Rule)
	case 6:
		bare.Number = a.Number
		ok = a.Number > 0
	}
	return ok && same(bare, a)
}

// saidCase is an ask that is ok with all that is told of it: whether there is an object or a grant, and the object as it would be.
type saidCase struct {
	law       impl.GateLaw
	book      impl.GateBook
	door      string
	ask       impl.GateAsk
	there     bool
	old, made impl.GateObject
	grant     impl.GateGrant
}

func saidCaseOf(l impl.GateLaw, b impl.GateBook, door string, a impl.GateAsk) saidCase {
	c := saidCase{law: l, book: b, door: door, ask: a}
	for _, o := range b.Objects {
		if a.Verb < 5 && o.Kind == a.Kind && o.Name == a.Name {
			c.there, c.old = true, o
		}
	}
	for _, g := range b.Grants {
		if a.Verb == 6 && g.Number == a.Number {
			c.there, c.grant = true, g
		}
	}
	switch a.Verb {
	case 1:
		c.made = saidShaped(l, impl.GateObject{Kind: a.Kind, Name: a.Name, Team: a.Team, Values: a.Values, Holds: a.Holds})
	case 2:
		c.made = copyObject(c.old)
		c.made.Values = slices.Clone(a.Values)
		if c.there {
			c.made = saidShaped(l, c.made)
		}
	}
	return c
}

// stands says whether a code of the document's list stands, whichever others do, and what it tells.
func (c saidCase) stands(code int) (impl.GateSaid, bool) {
	said := impl.GateSaid{Code: code}
	verb := c.ask.Verb
	if code > 3 && code < 11 && verb != 1 && verb != 5 && !c.there {
		return said, false
	}
	switch code {
	case 3:
		return said, verb == 1 && c.there || (verb == 2 || verb == 3 || verb == 4 || verb == 6) && !c.there
	case 4:
		return said, !c.mayAsk()
	case 5:
		said.Version = c.old.Version
		return said, c.ask.Seen != 0 && c.ask.Seen != c.old.Version
	case 6:
		return said, (verb == 2 || verb == 3) && c.old.Ending
	case 7:
		fault, place := saidCheck(c.law.Shapes, c.made)
		said.Place = place
		return said, (verb == 1 || verb == 2) && fault != 0
	case 8:
		fault, place := saidTurned(c.law.Shapes, c.old, c.made)
		said.Place = place
		return said, verb == 2 && fault == 4
	case 9:
		for i := range c.made.Values {
			if said.Place = i; c.isLoose(i) {
				return said, true
			}
		}
		return said, false
	case 10:
		said.Place = slices.IndexFunc(c.book.Ledgers, func(g impl.GateLedger) bool { return c.more(g) > 0 && c.more(g) > c.has(g) })
		return said, said.Place >= 0
	}
	return said, verb == 4 && !slices.Contains(c.old.Holds, c.ask.Hold) || verb == 1 && len(c.book.Objects) == 40 || verb == 5 && len(c.book.Grants) == 24 || c.book.Now == 1000000
}

func (c saidCase) mayAsk() bool {
	var rules []impl.GateRule
	for _, g := range c.book.Grants {
		if g.To == c.ask.Who {
			rules = append(rules, g.Rule)
		}
	}
	covers := func(r impl.GateRule) bool {
		r.Verbs = slices.Compact(slices.Sorted(slices.Values(append(slices.Clone(r.Verbs), 5))))
		return saidOpenVerb(c.law.Teams, rules, r) == 0
	}
	switch c.ask.Verb {
	case 5:
		return covers(c.ask.Rule)
	case 6:
		return c.grant.By == c.ask.Who || covers(c.grant.Rule)
	}
	act := impl.GateAct{Verb: c.ask.Verb, Kind: c.ask.Kind, Team: c.old.Team + c.ask.Team, Name: c.ask.Name}
	return saidMay(c.law, c.book, c.ask.Who, act)
}

// fieldsOf is the fields of an object's kind.
func (c saidCase) fieldsOf(o impl.GateObject) []impl.GateField {
	for _, s := range c.law.Shapes {
		if s.Kind == o.Kind {
			return s.Fields
		}
	}
	return nil
}

// isNewLink says whether the value at a place is a link that is set, and to something else than before.
func (c saidCase) isNewLink(i int) bool {
	value := c.made.Values[i]
	return c.fieldsOf(c.made)[i].Kind == 4 && value != "" && (len(c.old.Values) == 0 || c.old.Values[i] != value)
}

// isLoose says whether the value at a place is a new link that names nothing or what is Ending.
func (c saidCase) isLoose(i int) bool {
	value := c.made.Values[i]
	f := c.fieldsOf(c.made)[i]
	return c.isNewLink(i) && !slices.ContainsFunc(c.book.Objects, func(o impl.GateObject) bool { return o.Kind == f.To && o.Name == value && !o.Ending })
}

func (c saidCase) more(g impl.GateLedger) int {
	if !saidUnder(c.law.Teams, c.made.Team, g.Team) {
		return 0
	}
	return saidWeighs(c.law, c.made, g.Resource) - saidWeighs(c.law, c.old, g.Resource)
}

func (c saidCase) has(g impl.GateLedger) int {
	sum := 0
	for _, p := range c.book.Purses {
		if p.Door == c.door && p.Team == g.Team && p.Resource == g.Resource {
			sum += p.Amount
		}
	}
	return sum
}

// saidPassBut is what the document says of an ask, where some codes are not looked for.
func saidPassBut(l impl.GateLaw, b impl.GateBook, door string, a impl.GateAsk, out ...int) (impl.GateBook, impl.GateSaid) {
	if !saidBookOk(l, b) || !nameForm.MatchString(door) {
		return impl.GateBook{}, impl.GateSaid{Code: 1}
	}
	if !saidAskOk(l, a) {
		return impl.GateBook{}, impl.GateSaid{Code: 2}
	}
	c := saidCaseOf(l, b, door, a)
	for code := 3; code <= 11; code++ {
		if said, stands := c.stands(code); stands && !slices.Contains(out, code) {
			return b, said
		}
	}
	return c.done(), impl.GateSaid{Version: b.Now + 1}
}

func saidPass(l impl.GateLaw, b impl.GateBook, door string, a impl.GateAsk) (impl.GateBook, impl.GateSaid) {
	return saidPassBut(l, b, door, a)
}

// done lays the book anew: what is asked about is taken out, and what it becomes is sorted in.
func (c saidCase) done() impl.GateBook {
	b := withRoom(c.book)
	b.Now++
	next := copyObject(c.made)
	switch c.ask.Verb {
	case 3, 4:
		next = copyObject(c.old)
		next.Ending = next.Ending || c.ask.Verb == 3
		next.Holds = slices.DeleteFunc(next.Holds, func(hold string) bool { return hold == c.ask.Hold })
	case 5, 6:
		b.Given = b.Now
		b.Grants = slices.DeleteFunc(b.Grants, func(g impl.GateGrant) bool { return g.Number == c.ask.Number })
		if c.ask.Verb == 5 {
			b.Grants = append(b.Grants, impl.GateGrant{Number: b.Now, To: c.ask.To, By: c.ask.Who, Rule: c.ask.Rule})
		}
		return b
	}
	next.Version = b.Now
	b.Objects = slices.DeleteFunc(b.Objects, func(o impl.GateObject) bool { return o.Kind == next.Kind && o.Name == next.Name })
	b.Objects = append(b.Objects, next)
	slices.SortFunc(b.Objects, func(x, y impl.GateObject) int {
		return slices.Compare([]string{x.Kind, x.Name}, []string{y.Kind, y.Name})
	})
	if c.ask.Verb < 3 {
		c.pay(&b)
	}
	return b
}

func (c saidCase) pay(b *impl.GateBook) {
	for i, g := range b.Ledgers {
		more := c.more(g)
		if more < 0 {
			b.Ledgers[i].Free -= more
		}
		for j, p := range b.Purses {
			if more > 0 && p.Door == c.door && p.Team == g.Team && p.Resource == g.Resource {
				b.Purses[j].Amount -= more
			}
		}
	}
	b.Purses = slices.DeleteFunc(b.Purses, func(p impl.GatePurse) bool { return p.Amount == 0 })
}

// ask draws one that is mostly ok and about what the book has.
func (c chance) ask(l impl.GateLaw, b impl.GateBook) impl.GateAsk {
	a := impl.GateAsk{Who: c.text("ann", "ann", "ann", "ann", "ann", "ann", "bob", "cy", "dan"), Verb: []int{1, 1, 1, 2, 2, 2, 2, 3, 4, 5, 5, 6}[c.Intn(12)]}
	o := c.asked(l, b, a.Verb)
	switch a.Verb {
	case 1, 2:
		a.Kind, a.Name, a.Values = o.Kind, o.Name, c.askValues(l, b, o)
	case 3, 4:
		a.Kind, a.Name = o.Kind, o.Name
	case 5:
		a.To, a.Rule = c.text("ann", "ann", "bob", "cy", "dan"), c.askRule(l, b)
	case 6:
		a.Number = 1 + c.Intn(b.Given+1)
		if len(b.Grants) > 0 && !c.oneIn(5) {
			// The first grant is what nearly all asks rest on.
			a.Number = b.Grants[max(c.Intn(len(b.Grants)), c.Intn(len(b.Grants)), c.Intn(len(b.Grants)))].Number
		}
	}
	switch {
	case a.Verb == 1:
		a.Team = l.Teams[c.Intn(len(l.Teams))].Name
		a.Holds = []string{"h", "k"}[:c.Intn(3)]
	case a.Verb == 2 && c.oneIn(2), a.Verb == 3 && c.oneIn(2):
		a.Seen = o.Version + c.Intn(4)/3
	case a.Verb == 4:
		a.Hold = c.text(append([]string{"h", "k"}, o.Holds...)...)
	}
	if c.oneIn(20) {
		c.muddle(&a)
	}
	return a
}

// asked is an object of the book, or, mostly if one is to be made, one that is not there.
func (c chance) asked(l impl.GateLaw, b impl.GateBook, verb int) impl.GateObject {
	if len(b.Objects) > 0 && c.oneIn(8) == (verb == 1) {
		return b.Objects[c.Intn(len(b.Objects))]
	}
	return impl.GateObject{Kind: l.Shapes[c.Intn(len(l.Shapes))].Kind, Name: c.text("p", "q", "r", "s", "t", "u", "pp", "n10", "n15")}
}

// askValues is values like those of an object, some of them turned.
func (c chance) askValues(l impl.GateLaw, b impl.GateBook, o impl.GateObject) []string {
	fields := saidCase{law: l}.fieldsOf(o)
	values := slices.Clone(o.Values)
	for len(values) < len(fields) {
		values = append(values, "")
	}
	few := 1 + c.Intn(4)
	for i, f := range fields {
		switch {
		case len(o.Values) > 0 && !c.oneIn(few):
		case f.Kind == 4 && len(b.Objects) > 0 && !c.oneIn(3):
			to := b.Objects[c.Intn(len(b.Objects))]
			if to.Kind == f.To {
				values[i] = to.Name
			}
		case f.Kind == 4:
			values[i] = c.text("", "", "", "", "", "", "p", "n12", o.Name)
		case f.Kind == 1 && !c.oneIn(6):
			values[i] = strconv.Itoa(c.Intn(min(f.Most+2, 12)))
		default:
			values[i] = c.text("", "1", "2", "3", "a", "a", "big")
		}
	}
	return values
}

// askRule is mostly one that a grant of the book covers.
func (c chance) askRule(l impl.GateLaw, b impl.GateBook) impl.GateRule {
	r := impl.GateRule{Verbs: []int{1, 2, 3, 4, 5}}
	if len(b.Grants) > 0 && !c.oneIn(3) {
		r = b.Grants[c.Intn(len(b.Grants))].Rule
	}
	r = c.narrowed(l.Teams, r)
	if c.oneIn(2) {
		r.Kind = l.Shapes[c.Intn(len(l.Shapes))].Kind
	}
	if c.oneIn(2) {
		r.Prefix = c.text("", "n", "n1", "p")
	}
	if c.oneIn(30) {
		r = c.rule()
	}
	return r
}

// muddle turns one thing of an ask.
func (c chance) muddle(a *impl.GateAsk) {
	turns := []func(){
		func() { a.Who = c.text("", "ann", "bob") }, func() { a.Verb = c.Intn(9) - 1 }, func() { a.Kind = c.text("", "a", "b", "none") }, func() { a.Name = c.text("", "p", "q") },
		func() { a.Team = c.text("", "dev", "lab", "none") }, func() { a.Values = append(slices.Clone(a.Values), "") }, func() { a.Values = nil },
		func() { a.Holds = []string{"k", "h"} }, func() { a.Holds = []string{"a", "b", "c", "d"}[:c.Intn(5)] }, func() { a.Seen = c.Intn(5) - 2 }, func() { a.Hold = c.text("", "h") },
		func() { a.To = c.text("", "ann") }, func() { a.Rule = c.rule() }, func() { a.Number = c.Intn(5) - 2 },
	}
	turns[c.Intn(len(turns))]()
}

// grantTo gives ann all rights, and others some; the book is ok then too.
func (c chance) grantTo(l impl.GateLaw, b *impl.GateBook) {
	b.Given = 6 + c.Intn(3)
	b.Grants = []impl.GateGrant{{Number: 1, To: "ann", Rule: impl.GateRule{Verbs: []int{1, 2, 3, 4, 5}}}}
	for n := 2; n < 6; n++ {
		r := c.narrowed(l.Teams, b.Grants[0].Rule)
		r.Kind, r.Prefix = []string{"", l.Shapes[c.Intn(len(l.Shapes))].Kind}[c.Intn(2)], []string{"", "", "n", "p"}[c.Intn(4)]
		b.Grants = append(b.Grants, impl.GateGrant{Number: n, To: c.who(), By: []string{"", "ann", "bob"}[c.Intn(3)], Rule: r})
	}
}

// fatten fills the book just up to one of its limits, or nearly.
func (c chance) fatten(l impl.GateLaw, b *impl.GateBook) {
	switch c.Intn(8) {
	case 0:
		b.Now = 1000000 - c.Intn(6)
	case 1:
		// The last shape's kind is the last one, so that these stand in order.
		s := l.Shapes[len(l.Shapes)-1]
		for n := 0; len(b.Objects) < 37; n++ {
			o := saidShaped(l, impl.GateObject{Kind: s.Kind, Name: fmt.Sprintf("z%02d", n), Team: l.Teams[0].Name, Values: make([]string, len(s.Fields)), Version: 1})
			if code, _ := saidCheck(l.Shapes, o); code != 0 {
				break
			}
			b.Objects = append(b.Objects, o)
		}
	case 2:
		b.Now = max(b.Now, 30)
		for n := 7; len(b.Grants) < 22; n++ {
			b.Given = n
			b.Grants = append(b.Grants, impl.GateGrant{Number: n, To: "zoe", By: "ann", Rule: impl.GateRule{Verbs: []int{1}}})
		}
	}
}

// drawnAsks is a law and a book, both ok, in which asks mean something.
func (c chance) drawnAsks() (impl.GateLaw, impl.GateBook) {
	l, b := c.drawnEnds()
	c.grantTo(l, &b)
	c.fatten(l, &b)
	b.Ledgers, b.Purses = nil, nil
	resources := resourcesOf(l)
	for _, team := range namesOf(l.Teams) {
		for _, resource := range resources {
			if c.oneIn(3) && len(b.Ledgers) < 10 {
				b.Ledgers = append(b.Ledgers, impl.GateLedger{Team: team, Resource: resource, Free: c.Intn(20)})
			}
		}
	}
	few := 8 * c.Intn(2)
	for _, door := range []string{"d1", "d2"} {
		for _, g := range b.Ledgers {
			if !c.oneIn(3) && len(b.Purses) < 24 {
				b.Purses = append(b.Purses, impl.GatePurse{Door: door, Team: g.Team, Resource: g.Resource, Amount: 1 + c.Intn(4+few), Until: b.Tick + c.Intn(11)})
			}
		}
	}
	for i, o := range b.Objects {
		b.Objects[i].Ending = o.Ending && c.oneIn(2)
	}
	balance(l, &b)
	return l, b
}

// resourcesOf is all kinds, and all that fields weigh, ascending.
func resourcesOf(l impl.GateLaw) []string {
	var out []string
	for _, s := range l.Shapes {
		out = append(out, s.Kind)
		for _, f := range s.Fields {
			if f.Weighs != "" {
				out = append(out, f.Weighs)
			}
		}
	}
	return slices.Compact(slices.Sorted(slices.Values(out)))
}

func TestPassesAsSaid(t *testing.T) {
	t.Parallel()
	c := chance{rand.New(rand.NewSource(13))}
	seen := map[string]int{}
	for range 1200 {
		l, b := c.drawnAsks()
		if !saidBookOk(l, b) {
			t.Fatalf("the drawn book is not ok: %s of %s", saidFault(l, b), bookText(b))
		}
		first := b
		for range 20 {
			door, a := c.text("d1", "d1", "d2"), c.ask(l, b)
			if got, want := impl.GateAskOk(l, a), saidAskOk(l, a); got != want {
				t.Fatalf("GateAskOk %v: %+v by %+v", got, a, l)
			}
			want, wantSaid := saidPass(l, b, door, a)
			got, said := impl.GatePass(l, b, door, a)
			if said != wantSaid || !same(got, want) {
				t.Fatalf("%+v through %s: %+v, not %+v\n%s\nnot %s\nof %s", a, door, said, wantSaid, bookText(got), bookText(want), bookText(b))
			}
			holdPass(t, l, first, b, got, said)
			seen[fmt.Sprintf("verb %d code %d", a.Verb, said.Code)]++
			countWeights(b, got, seen)
			if said.Code == 0 {
				b = got
			}
			if c.oneIn(10) {
				b, _ = impl.GateSweep(l, b)
			}
		}
		c.unsettle(&b)
		a := c.ask(l, first)
		want, wantSaid := saidPass(l, b, "d1", a)
		if got, said := impl.GatePass(l, b, "d1", a); said != wantSaid || !same(got, want) {
			t.Fatalf("%+v of a book that may be none: %+v, not %+v of %s", a, said, wantSaid, bookText(b))
		}
		seen["unsettled "+strconv.Itoa(min(wantSaid.Code, 3))]++
	}
	comesUp(t, seen, 100, "verb 1 code 0", "verb 2 code 0", "verb 3 code 0", "verb 4 code 0", "verb 5 code 0", "verb 6 code 0",
		"verb 1 code 2", "verb 2 code 2", "verb 1 code 3", "verb 2 code 3", "verb 3 code 3", "verb 4 code 3", "verb 6 code 3",
		"verb 1 code 4", "verb 2 code 4", "verb 3 code 4", "verb 4 code 4", "verb 5 code 4", "verb 6 code 4",
		"verb 2 code 5", "verb 3 code 5", "verb 2 code 6", "verb 3 code 6", "verb 1 code 7", "verb 2 code 7", "verb 1 code 9", "verb 2 code 9", "verb 1 code 10", "verb 2 code 10", "verb 4 code 11",
		"a purse is less", "more is free", "unsettled 1")
	comesUp(t, seen, 20, "verb 1 code 1", "verb 3 code 2", "verb 4 code 2", "verb 5 code 2", "verb 6 code 2", "verb 2 code 8",
		"verb 1 code 11", "verb 2 code 11", "verb 3 code 11", "verb 5 code 11", "verb 6 code 11", "a purse is gone", "unsettled 0", "unsettled 3")
}

// holdPass holds promise 10, that the book stays ok, and that nobody has more than the first rights give.
func holdPass(t *testing.T, l impl.GateLaw, first, b, got impl.GateBook, said impl.GateSaid) {
	t.Helper()
	if said.Code != 0 {
		if said.Code > 2 && !same(got, b) || said.Code < 3 && !same(got, impl.GateBook{}) {
			t.Fatalf("with the code %d the book is %s\nof %s", said.Code, bookText(got), bookText(b))
		}
		return
	}
	holdBounds(t, l, got)
	var rules []impl.GateRule
	for _, g := range first.Grants {
		rules = append(rules, g.Rule)
	}
	for _, g := range got.Grants {
		if !impl.GateCovers(l.Teams, rules, g.Rule) {
			t.Fatalf("%+v was given by nobody who had it: %s", g, bookText(first))
		}
	}
}

func countWeights(b, got impl.GateBook, seen map[string]int) {
	if len(got.Ledgers) != len(b.Ledgers) {
		return
	}
	for i, g := range got.Ledgers {
		if g.Free > b.Ledgers[i].Free {
			seen["more is free"]++
		}
	}
	for i, p := range got.Purses {
		if len(got.Purses) == len(b.Purses) && p.Amount < b.Purses[i].Amount {
			seen["a purse is less"]++
		}
	}
	if len(got.Purses) < len(b.Purses) {
		seen["a purse is gone"]++
	}
}

// Promise 12: a change to the values that an object has changes nothing but its version and Now.
func TestPassTwice(t *testing.T) {
	t.Parallel()
	c := chance{rand.New(rand.NewSource(14))}
	seen := map[string]int{}
	for range 1500 {
		l, b := c.drawnAsks()
		for i, o := range b.Objects {
			a := impl.GateAsk{Who: "ann", Verb: impl.GateChange, Kind: o.Kind, Name: o.Name, Values: o.Values, Seen: []int{0, o.Version}[c.Intn(2)]}
			door := c.text("d1", "d2", "d3")
			got, said := impl.GatePass(l, b, door, a)
			want := withRoom(b)
			switch {
			case !nameForm.MatchString(door):
				continue
			case o.Ending:
				seen["ending"]++
				if said != (impl.GateSaid{Code: 6}) {
					t.Fatalf("%+v: %+v", o, said)
				}
			case b.Now == 1000000:
				if said != (impl.GateSaid{Code: 11}) {
					t.Fatalf("%+v: %+v", o, said)
				}
			default:
				seen["changed"]++
				want.Now++
				want.Objects[i].Version = want.Now
				if said != (impl.GateSaid{Version: want.Now}) {
					t.Fatalf("%+v: %+v", o, said)
				}
			}
			if !same(got, want) {
				t.Fatalf("%+v through %s: %s\nnot %s", o, door, bookText(got), bookText(want))
			}
		}
		c.holdAskedTwice(t, l, b, seen)
	}
	comesUp(t, seen, 500, "changed", "ending", "asked twice")
}

// holdAskedTwice asks for one change twice: the second one finds the values that it asks for.
func (c chance) holdAskedTwice(t *testing.T, l impl.GateLaw, b impl.GateBook, seen map[string]int) {
	t.Helper()
	for range 10 {
		a := c.ask(l, b)
		once, said := impl.GatePass(l, b, "d1", a)
		if a.Verb != impl.GateChange || said.Code != 0 || once.Now == 1000000 {
			continue
		}
		a.Seen = 0
		twice, said := impl.GatePass(l, once, "d2", a)
		want := withRoom(once)
		want.Now++
		for i, o := range want.Objects {
			if o.Kind == a.Kind && o.Name == a.Name {
				want.Objects[i].Version = want.Now
			}
		}
		if said != (impl.GateSaid{Version: want.Now}) || !same(twice, want) {
			t.Fatalf("%+v twice: %+v\n%s\nnot %s", a, said, bookText(twice), bookText(want))
		}
		seen["asked twice"]++
	}
}
