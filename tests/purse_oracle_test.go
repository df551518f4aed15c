package tests

import (
	"math/rand"
	"slices"
	"strconv"
	"testing"

	"loop.example/wharfgate/impl"
)

// The document's words of chapter 6 a second time, and promises 5 and 6 held over drawn rows of calls.

// purseAsk is one of the four calls, with what it is given.
type purseAsk struct {
	what                 string
	door, team, resource string
	number               int
}

func (a purseAsk) of(l impl.GateLaw, b impl.GateBook) (impl.GateBook, int) {
	switch a.what {
	case "draw":
		return impl.GateDraw(l, b, a.door, a.team, a.resource, a.number)
	case "back":
		return impl.GateBack(l, b, a.door, a.team, a.resource)
	case "tick":
		return impl.GateTick(l, b)
	}
	return impl.GateBound(l, b, a.team, a.resource, a.number)
}

// said is what the document says of the call: the purses and ledgers are taken out, turned, and laid in order again.
func (a purseAsk) said(l impl.GateLaw, b impl.GateBook) (impl.GateBook, int) {
	if !saidBookOk(l, b) {
		return impl.GateBook{}, 1
	}
	b = withRoom(b)
	ledger := slices.IndexFunc(b.Ledgers, func(g impl.GateLedger) bool { return g.Team == a.team && g.Resource == a.resource })
	purse := slices.IndexFunc(b.Purses, func(p impl.GatePurse) bool { return p.Door == a.door && p.Team == a.team && p.Resource == a.resource })
	team := slices.Contains(namesOf(l.Teams), a.team)
	switch a.what {
	case "draw":
		switch {
		case !nameForm.MatchString(a.door) || ledger < 0 || a.number < 1 || a.number > 1000000:
			return b, 2
		case b.Ledgers[ledger].Free < a.number:
			return b, 3
		case purse < 0 && len(b.Purses) == 24:
			return b, 4
		case purse < 0:
			purse = len(b.Purses)
			b.Purses = append(b.Purses, impl.GatePurse{Door: a.door, Team: a.team, Resource: a.resource})
		}
		b.Ledgers[ledger].Free -= a.number
		b.Purses[purse].Amount += a.number
		b.Purses[purse].Until = b.Tick + 10
	case "back":
		if purse < 0 {
			return b, 2
		}
		b = refunded(b, func(p impl.GatePurse) bool { return p == b.Purses[purse] })
	case "tick":
		if b.Tick == 1000000 {
			return b, 2
		}
		b.Tick++
		b = refunded(b, func(p impl.GatePurse) bool { return p.Until < b.Tick })
	case "bound":
		switch {
		case !team || !nameForm.MatchString(a.resource) || a.number < 0 || a.number > 1000000:
			return b, 2
		case ledger >= 0 && b.Ledgers[ledger].Free+a.number < b.Ledgers[ledger].Most, ledger < 0 && saidUsed(l, b, a.team, a.resource) > a.number:
			return b, 3
		case ledger < 0 && len(b.Ledgers) == 10:
			return b, 4
		case ledger < 0:
			b.Ledgers = append(b.Ledgers, impl.GateLedger{Team: a.team, Resource: a.resource, Most: a.number, Free: a.number - saidUsed(l, b, a.team, a.resource)})
		default:
			b.Ledgers[ledger].Free += a.number - b.Ledgers[ledger].Most
			b.Ledgers[ledger].Most = a.number
		}
	}
	slices.SortFunc(b.Ledgers, func(x, y impl.GateLedger) int {
		return slices.Compare([]string{x.Team, x.Resource}, []string{y.Team, y.Resource})
	})
	slices.SortFunc(b.Purses, func(x, y impl.GatePurse) int {
		return slices.Compare([]string{x.Door, x.Team, x.Resource}, []string{y.Door, y.Team, y.Resource})
	})
	return b, 0
}

// refunded gives back the purses of which something holds.
func refunded(b impl.GateBook, goes func(p impl.GatePurse) bool) impl.GateBook {
	var stay []impl.GatePurse
	for _, p := range b.Purses {
		if !goes(p) {
			stay = append(stay, p)
			continue
		}
		for i, g := range b.Ledgers {
			if g.Team == p.Team && g.Resource == p.Resource {
				b.Ledgers[i].Free += p.Amount
			}
		}
	}
	b.Purses = stay
	return b
}

// purseAsk draws a call that mostly means something in a book.
func (c chance) purseAsk(l impl.GateLaw, b impl.GateBook) purseAsk {
	a := purseAsk{what: []string{"draw", "draw", "draw", "draw", "back", "tick", "tick", "bound"}[c.Intn(8)]}
	a.door = c.text("d1", "d2", "d3", "d4")
	a.team, a.resource = c.text(append(namesOf(l.Teams), "none")...), c.text("a", "v", "w", "x")
	if len(b.Ledgers) > 0 && !c.oneIn(4) {
		g := b.Ledgers[c.Intn(len(b.Ledgers))]
		a.team, a.resource = g.Team, g.Resource
		a.number = 1 + c.Intn(g.Free+1)
		if c.oneIn(4) {
			a.number = g.Free + c.Intn(3)
		}
		if a.what == "bound" {
			a.number = g.Most - g.Free - 1 + c.Intn(g.Free+9)
		}
	} else {
		a.number = c.number(30)
	}
	if c.oneIn(40) {
		a.number = []int{0, -1, 1000000, 1000001}[c.Intn(4)]
	}
	if a.what == "back" && len(b.Purses) > 0 && !c.oneIn(4) {
		p := b.Purses[c.Intn(len(b.Purses))]
		a.door, a.team, a.resource = p.Door, p.Team, p.Resource
	}
	return a
}

// crowd gives a book nearly as many ledgers and purses as it may have, and much that is free.
func (c chance) crowd(l impl.GateLaw, b *impl.GateBook) {
	for n := 0; len(b.Ledgers) < 9+c.Intn(2); n++ {
		b.Ledgers = append(b.Ledgers, impl.GateLedger{Team: l.Teams[len(l.Teams)-1].Name, Resource: "y" + strconv.Itoa(n)})
	}
	for i := range b.Ledgers {
		b.Ledgers[i].Free = 50
	}
	for n := 0; len(b.Purses) < 23; n++ {
		g := b.Ledgers[c.Intn(len(b.Ledgers))]
		b.Purses = append(b.Purses, impl.GatePurse{Door: "e" + strconv.Itoa(10+n), Team: g.Team, Resource: g.Resource, Amount: 1 + c.Intn(3), Until: b.Tick + 10})
	}
	balance(l, b)
}

// drawnBook is a law and a book of it, both ok.
func (c chance) drawnBook() (impl.GateLaw, impl.GateBook) {
	for {
		l := c.law()
		if b := c.book(l); saidLawOk(l) && len(l.Teams) > 0 {
			return l, b
		}
	}
}

// Promise 5: behind drawn rows of calls a book that was ok is ok, and each answer is as the document says.
func TestPursesAsSaid(t *testing.T) {
	t.Parallel()
	c := chance{rand.New(rand.NewSource(8))}
	seen := map[string]int{}
	for range 500 {
		l, b := c.drawnBook()
		if c.oneIn(10) {
			b = impl.GateBook{Tick: 999990}
		}
		if c.oneIn(5) {
			c.crowd(l, &b)
		}
		for range 60 {
			a := c.purseAsk(l, b)
			was := wholeText(b)
			want, wantCode := a.said(l, b)
			got, code := a.of(l, b)
			if code != wantCode || !same(got, want) {
				t.Fatalf("%+v: code %d, not %d\n%s\nnot %s\nof %s", a, code, wantCode, bookText(got), bookText(want), bookText(b))
			}
			if wholeText(b) != was {
				t.Fatalf("%+v wrote into its book", a)
			}
			if code != 0 && !same(got, b) {
				t.Fatalf("%+v: with the code %d something has changed", a, code)
			}
			seen[a.what+" "+strconv.Itoa(code)]++
			b = got
			holdBounds(t, l, b)
		}
		c.unsettle(&b)
		a := c.purseAsk(l, impl.GateBook{})
		want, wantCode := a.said(l, b)
		if got, code := a.of(l, b); code != wantCode || !same(got, want) {
			t.Fatalf("%+v of a book that may be none: code %d, not %d", a, code, wantCode)
		}
		seen["unsettled "+strconv.Itoa(wantCode)]++
	}
	comesUp(t, seen, 100, "draw 0", "draw 2", "draw 3", "draw 4", "back 0", "back 2", "tick 0", "bound 0", "bound 2", "bound 3", "unsettled 1")
	comesUp(t, seen, 10, "tick 2", "bound 4", "unsettled 0")
}

// holdBounds asks that the book is ok, and of each ledger that nothing is used above Most.
func holdBounds(t *testing.T, l impl.GateLaw, b impl.GateBook) {
	t.Helper()
	if !impl.GateBookOk(l, b) {
		t.Fatalf("not ok: %s of %s", saidFault(l, b), bookText(b))
	}
	for _, g := range b.Ledgers {
		out := 0
		for _, p := range b.Purses {
			if p.Team == g.Team && p.Resource == g.Resource {
				out += p.Amount
			}
		}
		if used := impl.GateUsed(l, b, g.Team, g.Resource); used+out+g.Free != g.Most || used > g.Most {
			t.Fatalf("%+v: %d are used and %d drawn", g, used, out)
		}
	}
}

// drawn is what a door has drawn and not had back, and the tick of the last draw.
type drawn struct{ amount, tick int }

// Promise 6: a purse has all that was drawn into it, until it is given back or has run out; then Free has it.
func TestPursesComeBack(t *testing.T) {
	t.Parallel()
	c := chance{rand.New(rand.NewSource(9))}
	seen := map[string]int{}
	for range 200 {
		l, b := c.drawnBook()
		b.Tick, b.Purses = c.Intn(100), nil
		balance(l, &b)
		have := map[[3]string]drawn{}
		for range 120 {
			a := c.purseAsk(l, b)
			got, code := a.of(l, b)
			key := [3]string{a.door, a.team, a.resource}
			switch {
			case code != 0:
			case a.what == "draw":
				have[key] = drawn{have[key].amount + a.number, b.Tick}
			case a.what == "back":
				delete(have, key)
				seen["given back"]++
			}
			b = got
			for key, d := range have {
				if b.Tick > d.tick+10 {
					delete(have, key)
					seen["run out"]++
				} else if b.Tick == d.tick+10 {
					seen["at its last tick"]++
				}
			}
			holdPurses(t, b, have)
			holdBounds(t, l, b)
		}
		// All doors are dead now: eleven ticks behind the last draw nothing is drawn.
		for range 11 {
			b, _ = impl.GateTick(l, b)
		}
		holdPurses(t, b, nil)
		for _, g := range b.Ledgers {
			if g.Free != g.Most-saidUsed(l, b, g.Team, g.Resource) {
				t.Fatalf("not all came back: %+v", g)
			}
		}
	}
	comesUp(t, seen, 200, "given back", "run out", "at its last tick")
}

func holdPurses(t *testing.T, b impl.GateBook, have map[[3]string]drawn) {
	t.Helper()
	if len(b.Purses) != len(have) {
		t.Fatalf("%d purses, not %d: %s", len(b.Purses), len(have), bookText(b))
	}
	for _, p := range b.Purses {
		if d := have[[3]string{p.Door, p.Team, p.Resource}]; d.amount != p.Amount || p.Until != d.tick+10 {
			t.Fatalf("%+v has not what was drawn: %+v", p, d)
		}
	}
}
