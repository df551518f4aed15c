package tests

import (
	"fmt"
	"math/rand"
	"slices"
	"testing"

	"loop.example/wharfgate/impl"
)

// The document's words of chapter 10 a second time, by the calls that they name, which are held against their own words elsewhere; promises 4 and 13 held over drawn rows of events.

func saidWorldOk(l impl.GateLaw, w impl.GateWorld) bool {
	ok := impl.GateBookOk(l, w.Book) && len(w.Doors) <= 4
	var names [][]string
	for _, d := range w.Doors {
		names = append(names, []string{d.Name})
		ok = ok && nameForm.MatchString(d.Name) && impl.GateBookOk(l, d.View) && d.View.Now <= w.Book.Now && len(d.Slips) <= 6 && (d.Up || len(d.Slips) == 0)
		for _, s := range d.Slips {
			ok = ok && impl.GateSlipOk(l, s) && s.Door == d.Name
		}
	}
	return ok && saidAscending(names)
}

func saidSafe(l impl.GateLaw, first impl.GateBook, w impl.GateWorld) bool {
	if !impl.GateLawOk(l) || !impl.GateBookOk(l, first) || !saidWorldOk(l, w) {
		return false
	}
	var rules []impl.GateRule
	for _, g := range first.Grants {
		rules = append(rules, g.Rule)
	}
	return !slices.ContainsFunc(w.Book.Grants, func(g impl.GateGrant) bool { return saidOpenVerb(l.Teams, rules, g.Rule) != 0 })
}

// saidCannot says whether an event is one that the document answers with 13.
func saidCannot(w impl.GateWorld, e impl.GateEvent) bool {
	there := e.Door >= 0 && e.Door < len(w.Doors)
	var d impl.GateDoor
	if there {
		d = w.Doors[e.Door]
	}
	switch e.Kind {
	case 1, 5, 6, 8:
		return !there || !d.Up
	case 2:
		return !there || !d.Up || len(d.Slips) == 6
	case 3, 4:
		return !there || !d.Up || e.At < 0 || e.At >= len(d.Slips)
	case 9:
		return !there || d.Up
	case 7, 10, 11:
		return false
	}
	return true
}

// saidStep lays the world anew, in which all that does not change is as it was.
func saidStep(l impl.GateLaw, w impl.GateWorld, e impl.GateEvent) (impl.GateWorld, impl.GateSaid) {
	if !saidWorldOk(l, w) {
		return impl.GateWorld{}, impl.GateSaid{Code: 1}
	}
	if saidCannot(w, e) {
		return w, impl.GateSaid{Code: 13}
	}
	out := withRoom(w)
	var said impl.GateSaid
	var book impl.GateBook
	var d *impl.GateDoor
	if e.Kind != 7 && e.Kind != 10 && e.Kind != 11 {
		d = &out.Doors[e.Door]
	}
	switch e.Kind {
	case 1:
		d.View = withRoom(w.Book)
	case 2:
		var s impl.GateSlip
		if s, said = impl.GateSlipOf(l, d.View, d.Name, e.Ask); said.Code == 0 {
			d.Slips = append(d.Slips, s)
		}
	case 3:
		book, said = impl.GateCommit(l, w.Book, d.Slips[e.At])
	case 5:
		book, said.Code = impl.GateDraw(l, w.Book, d.Name, e.Team, e.Resource, e.Amount)
	case 6:
		book, said.Code = impl.GateBack(l, w.Book, d.Name, e.Team, e.Resource)
	case 7:
		book, said.Code = impl.GateTick(l, w.Book)
	case 8:
		d.Up, d.Slips = false, nil
	case 9:
		d.Up = true
	case 10:
		book, said.Code = impl.GateSweep(l, w.Book)
	case 11:
		book, said.Code = impl.GateBound(l, w.Book, e.Team, e.Resource, e.Amount)
	}
	if e.Kind == 3 || e.Kind == 4 {
		d.Slips = slices.Concat(d.Slips[:e.At], d.Slips[e.At+1:])
	}
	if slices.Contains([]int{3, 5, 6, 7, 10, 11}, e.Kind) && said.Code == 0 {
		out.Book = book
	}
	return out, said
}

// drawnWorld is a law and a world of it, both ok: its doors see the Book, and have no slips.
func (c chance) drawnWorld() (impl.GateLaw, impl.GateWorld) {
	l, b := c.drawnAsks()
	w := impl.GateWorld{Book: b, Doors: doorsOf(b, []string{"d1", "d2", "d3", "d4"}[:max(c.Intn(5), c.Intn(5))]...)}
	for i := range w.Doors {
		w.Doors[i].Up = !c.oneIn(4)
	}
	return l, w
}

// event draws one that mostly can be; all of it is set, whether it is used or not.
func (c chance) event(l impl.GateLaw, w impl.GateWorld) impl.GateEvent {
	kinds := []int{1, 1, 1, 2, 2, 2, 2, 2, 2, 2, 2, 2, 2, 3, 3, 3, 3, 3, 4, 5, 5, 5, 6, 7, 8, 9, 9, 10, 10, 11}
	e := impl.GateEvent{Kind: kinds[c.Intn(len(kinds))], Door: c.Intn(len(w.Doors) + 1)}
	for range 6 {
		if saidCannot(w, e) {
			e.Door = c.Intn(len(w.Doors) + 1)
		}
	}
	view := w.Book
	if e.Door < len(w.Doors) {
		d := w.Doors[e.Door]
		view, e.At = d.View, min(c.Intn(len(d.Slips)+1), c.Intn(len(d.Slips)+1))
	}
	e.Ask = c.ask(l, view)
	for range 3 {
		if _, said := impl.GateSlipOf(l, view, "d", e.Ask); said.Code != 0 && e.Kind == impl.GateAsks {
			e.Ask = c.ask(l, view)
		}
	}
	p := c.purseAsk(l, w.Book)
	for (p.what == "bound") != (e.Kind == impl.GateBinds) {
		p = c.purseAsk(l, w.Book)
	}
	e.Team, e.Resource, e.Amount = p.team, p.resource, p.number
	switch c.Intn(60) {
	case 0:
		e.Kind = c.Intn(20) - 4
	case 1:
		e.Door = c.Intn(9) - 3
	case 2:
		e.At = c.Intn(12) - 3
	}
	return e
}

// wild turns one thing of a world, which may be ok then or not.
func (c chance) wild(l impl.GateLaw, w impl.GateWorld) impl.GateWorld {
	w = withRoom(w)
	turns := []func(){
		func() { c.unsettle(&w.Book) }, func() { w.Book.Now = max(0, w.Book.Now-1) },
		func() { w.Doors = append(w.Doors, impl.GateDoor{Name: c.text("d5", "d4", "a", "D")}) },
	}
	if len(w.Doors) > 0 {
		i := c.Intn(len(w.Doors))
		d := &w.Doors[i]
		slip := func() impl.GateSlip {
			if len(d.Slips) > 0 && c.oneIn(2) {
				return c.spoilSlip(d.View, d.Slips[c.Intn(len(d.Slips))])
			}
			return impl.GateSlip{Door: c.text(d.Name, d.Name, d.Name, "d1", ""), Ask: c.ask(l, w.Book), Given: w.Book.Given}
		}
		turns = append(turns,
			func() { c.unsettle(&d.View) }, func() { d.View.Now = w.Book.Now + c.Intn(2) }, func() { d.View = impl.GateBook{Now: c.Intn(3), Tick: 5} },
			func() { d.Name = c.text("", "d", "d1", "d2", "d9", "Dd") }, func() { d.Up = !d.Up }, func() { d.Slips = append(d.Slips, slip()) }, func() { d.Slips = slices.Repeat([]impl.GateSlip{slip()}, 5+c.Intn(3)) },
			func() { w.Doors = append(w.Doors[:i], w.Doors[i+1:]...) }, func() { w.Doors[0], w.Doors[i] = w.Doors[i], w.Doors[0] }, func() { d.Up, d.Slips = !d.Up, nil })
	}
	turns[c.Intn(len(turns))]()
	return w
}

// Worlds of any kind, with views and slips that no history gave.
func TestWorldsAsSaid(t *testing.T) {
	t.Parallel()
	c := chance{rand.New(rand.NewSource(17))}
	seen := map[string]int{}
	for range 800 {
		l, w := c.drawnWorld()
		first := withRoom(w.Book)
		for range 16 {
			next := c.wild(l, w)
			ok := saidWorldOk(l, next)
			if got := impl.GateWorldOk(l, next); got != ok {
				t.Fatalf("GateWorldOk %v of %s", got, worldText(next))
			}
			safe := saidSafe(l, first, next)
			if got := impl.GateSafe(l, first, next); got != safe {
				t.Fatalf("GateSafe %v of %s\nby %s", got, worldText(next), bookText(first))
			}
			seen[fmt.Sprintf("ok %v safe %v", ok, safe)]++
			e := c.event(l, w)
			want, wantSaid := saidStep(l, next, e)
			got, said := impl.GateStep(l, next, e)
			if said != wantSaid || !same(got, want) {
				t.Fatalf("%+v: %+v, not %+v%s\nnot%s\nof%s", e, said, wantSaid, worldText(got), worldText(want), worldText(next))
			}
			seen[fmt.Sprintf("event %d code %d", e.Kind, said.Code)]++
			if ok {
				w = got
			}
			if c.oneIn(8) {
				c.unsettle(&first)
			}
		}
	}
	comesUp(t, seen, 300, "ok true safe true", "ok true safe false", "ok false safe false")
	for kind := 1; kind <= 11; kind++ {
		comesUp(t, seen, 20, fmt.Sprintf("event %d code 0", kind), fmt.Sprintf("event %d code 1", kind))
	}
	comesUp(t, seen, 5, "event 3 code 3", "event 3 code 4", "event 3 code 10", "event 3 code 12")
}

// Promises 4 and 13: rows of events through up to GateMaxDoors doors, from a world that is safe.
func TestWorldsStaySafe(t *testing.T) {
	t.Parallel()
	c := chance{rand.New(rand.NewSource(18))}
	seen := map[string]int{}
	for range 280 {
		l, w := c.drawnWorld()
		first := w.Book
		// By fewer first rights a world is safe in some rows alone, but it stays so from then on.
		others := []impl.GateBook{c.fewerGrants(first), c.fewerGrants(first)}
		were := []bool{false, false}
		for range 60 {
			e := c.event(l, w)
			want, wantSaid := saidStep(l, w, e)
			got, said := impl.GateStep(l, w, e)
			if said != wantSaid || !same(got, want) {
				t.Fatalf("%+v: %+v, not %+v%s\nnot%s\nof%s", e, said, wantSaid, worldText(got), worldText(want), worldText(w))
			}
			if !impl.GateWorldOk(l, got) || !impl.GateSafe(l, first, got) {
				t.Fatalf("%+v: not ok, or not safe: %s\nof%s", e, worldText(got), worldText(w))
			}
			for i, was := range were {
				if !was && same(got.Book.Grants, w.Book.Grants) {
					continue
				}
				if were[i] = impl.GateSafe(l, others[i], got); was && !were[i] {
					t.Fatalf("%+v: no longer safe: %s\nof%s", e, worldText(got), worldText(w))
				}
				seen[fmt.Sprintf("by others safe %v", were[i])]++
			}
			holdStep(t, l, first, w, got, e, said, seen)
			seen[fmt.Sprintf("event %d code %d", e.Kind, said.Code)]++
			w = got
		}
	}
	for kind := 1; kind <= 11; kind++ {
		comesUp(t, seen, 50, fmt.Sprintf("event %d code 0", kind))
		if usesOf(kind).door {
			comesUp(t, seen, 20, fmt.Sprintf("event %d code 13", kind))
		}
	}
	for verb := 1; verb <= 6; verb++ {
		comesUp(t, seen, 10, fmt.Sprintf("verb %d done", verb))
	}
	comesUp(t, seen, 100, "by others safe true", "event 3 code 12", "event 5 code 2", "event 5 code 3", "event 6 code 2", "event 10 code 2", "an act of a grant")
	comesUp(t, seen, 50, "by others safe false", "event 3 code 10")
	comesUp(t, seen, 10, "event 3 code 11", "event 0 code 13", "event 11 code 2", "event 11 code 3")
}

// fewerGrants is a book in which some of the grants are not, or give less.
func (c chance) fewerGrants(b impl.GateBook) impl.GateBook {
	b = withRoom(b)
	b.Grants = slices.DeleteFunc(b.Grants, func(g impl.GateGrant) bool { return c.oneIn(4) })
	for i, g := range b.Grants {
		if c.oneIn(6) {
			b.Grants[i].Rule = c.narrowed(nil, g.Rule)
		}
	}
	return b
}

// holdStep holds what a step must leave: what is done was asked by somebody who had the right to, nobody has more than the first rights give, and with a code the Book is as it was.
func holdStep(t *testing.T, l impl.GateLaw, first impl.GateBook, w, got impl.GateWorld, e impl.GateEvent, said impl.GateSaid, seen map[string]int) {
	t.Helper()
	if said.Code != 0 && !same(got.Book, w.Book) || got.Book.Now < w.Book.Now {
		t.Fatalf("%+v: with the code %d the Book is %s\nof %s", e, said.Code, bookText(got.Book), bookText(w.Book))
	}
	holdBounds(t, l, got.Book)
	var rules []impl.GateRule
	for _, g := range first.Grants {
		rules = append(rules, g.Rule)
	}
	for _, g := range got.Book.Grants {
		if saidOpenVerb(l.Teams, rules, g.Rule) != 0 {
			t.Fatalf("%+v: %+v was given by nobody who had it: %s", e, g, bookText(first))
		}
	}
	if e.Kind != impl.GateCommits || said.Code == 13 {
		return
	}
	// All views are of this history, so nothing but these is said.
	if !slices.Contains([]int{0, 10, 11, 12}, said.Code) {
		t.Fatalf("%+v: a slip of an older view is answered with %+v: %s", e, said, worldText(w))
	}
	if said.Code == 0 {
		holdDone(t, l, rules, w, got, w.Doors[e.Door].Slips[e.At].Ask, seen)
	}
}

// holdDone holds that an ask that was done was one that its Who had the right to, in the Book ahead of it and by the first rights.
func holdDone(t *testing.T, l impl.GateLaw, first []impl.GateRule, w, got impl.GateWorld, a impl.GateAsk, seen map[string]int) {
	t.Helper()
	seen[fmt.Sprintf("verb %d done", a.Verb)]++
	if !saidCaseOf(l, w.Book, "d", a).mayAsk() {
		t.Fatalf("%+v was done without a right: %s", a, bookText(w.Book))
	}
	if a.Verb <= impl.GateLetGo {
		act := impl.GateAct{Verb: a.Verb, Kind: a.Kind, Team: a.Team, Name: a.Name}
		for _, o := range w.Book.Objects {
			if o.Kind == a.Kind && o.Name == a.Name {
				act.Team = o.Team
			}
		}
		if !impl.GateMay(l, w.Book, a.Who, act) || !allowedByOne(l.Teams, first, act) {
			t.Fatalf("%+v was done without a right: %s", a, bookText(w.Book))
		}
	}
	if a.Verb != impl.GateGive {
		return
	}
	// Acts that the new grant allows: of its own kind, team and prefix, and of any others where it names none.
	for _, verb := range a.Rule.Verbs {
		for _, kind := range []string{a.Rule.Kind, "zone"} {
			for _, team := range append(namesOf(l.Teams), a.Rule.Team, "nowhere", "") {
				act := impl.GateAct{Verb: verb, Kind: kind, Team: team, Name: a.Rule.Prefix + "x"}
				if !impl.GateAllows(l.Teams, a.Rule, act) {
					continue
				}
				seen["an act of a grant"]++
				if !allowedByOne(l.Teams, first, act) || !impl.GateMay(l, got.Book, a.To, act) {
					t.Fatalf("%+v gives %+v, which no first right does", a, act)
				}
			}
		}
	}
}
