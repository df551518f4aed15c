package tests

import (
	"fmt"
	"math/rand"
	"slices"
	"testing"

	"loop.example/wharfgate/impl"
)

// The document's words of chapter 9 a second time, and promise 11 held over drawn histories.

func saidSlipOf(l impl.GateLaw, view impl.GateBook, door string, a impl.GateAsk) (impl.GateSlip, impl.GateSaid) {
	if _, said := saidPassBut(l, view, door, a, 10); said.Code != 0 {
		return impl.GateSlip{}, said
	}
	s := impl.GateSlip{Door: door, Ask: a, Given: view.Given}
	c := saidCaseOf(l, view, door, a)
	if a.Verb < 5 {
		s.Wants = append(s.Wants, impl.GateWant{Kind: a.Kind, Name: a.Name, Version: c.old.Version})
	}
	for i, value := range c.made.Values {
		for _, o := range view.Objects {
			if c.isNewLink(i) && o.Kind == c.fieldsOf(c.made)[i].To && o.Name == value {
				s.Wants = append(s.Wants, impl.GateWant{Kind: o.Kind, Name: o.Name, Version: o.Version})
			}
		}
	}
	return s, impl.GateSaid{}
}

func saidSlipOk(l impl.GateLaw, s impl.GateSlip) bool {
	ok := nameForm.MatchString(s.Door) && saidAskOk(l, s.Ask) && s.Given >= 0 && len(s.Wants) <= 8
	for _, w := range s.Wants {
		ok = ok && nameForm.MatchString(w.Kind) && nameForm.MatchString(w.Name) && w.Version >= 0
	}
	return ok
}

// saidLate says whether a slip that is ok relied on what is not so in a book, and the place that is told.
func saidLate(b impl.GateBook, s impl.GateSlip) (int, bool) {
	if s.Given != b.Given {
		return 0, true
	}
	for i, w := range s.Wants {
		there, met := false, false
		for _, o := range b.Objects {
			if o.Kind == w.Kind && o.Name == w.Name {
				there, met = true, o.Version == w.Version
			}
		}
		if w.Version == 0 && there || w.Version != 0 && !met {
			return i + 1, true
		}
	}
	return 0, false
}

func saidCommit(l impl.GateLaw, b impl.GateBook, s impl.GateSlip) (impl.GateBook, impl.GateSaid) {
	if !saidBookOk(l, b) {
		return impl.GateBook{}, impl.GateSaid{Code: 1}
	}
	if !saidSlipOk(l, s) {
		return impl.GateBook{}, impl.GateSaid{Code: 2}
	}
	if place, isLate := saidLate(b, s); isLate {
		return b, impl.GateSaid{Code: 12, Place: place}
	}
	return saidPass(l, b, s.Door, s.Ask)
}

// spoilSlip turns one thing of a slip.
func (c chance) spoilSlip(b impl.GateBook, s impl.GateSlip) impl.GateSlip {
	s = withRoom(s)
	if len(s.Wants) == 0 || c.oneIn(6) {
		s.Wants = append(s.Wants, impl.GateWant{Kind: c.text("a", "b", "none"), Name: c.text("p", "n10", "n11"), Version: c.Intn(4) - 1})
	}
	w := &s.Wants[c.Intn(len(s.Wants))]
	turns := []func(){
		func() { s.Door = c.text("", "D", "d9") }, func() { c.muddle(&s.Ask) }, func() { s.Ask = c.ask(impl.GateLaw{Shapes: []impl.GateShape{{Kind: "a"}}, Teams: teamsOf("dev")}, b) },
		func() { s.Given += c.Intn(3) - 1 }, func() { s.Given = -1 }, func() { w.Kind = c.text("", "a", "b", "A") }, func() { w.Name = c.text("", "p", "n10", "N") },
		func() { w.Version += c.Intn(3) - 1 }, func() { w.Version = 0 }, func() { w.Version = -1 }, func() { s.Wants = slices.Repeat(s.Wants, 8/len(s.Wants)) }, func() { s.Wants = slices.Repeat(s.Wants, 9) },
		func() { s.Wants = nil }, func() { s.Wants = s.Wants[1:] }, func() { slices.Reverse(s.Wants) },
	}
	turns[c.Intn(len(turns))]()
	return s
}

func TestSlipsAsSaid(t *testing.T) {
	t.Parallel()
	c := chance{rand.New(rand.NewSource(15))}
	seen := map[string]int{}
	for range 800 {
		l, b := c.drawnAsks()
		for range 20 {
			door, a := c.text("d1", "d2", "d3"), c.ask(l, b)
			s := holdSlip(t, l, b, door, a, seen)
			s = c.spoilSlip(b, s)
			if got, want := impl.GateSlipOk(l, s), saidSlipOk(l, s); got != want {
				t.Fatalf("GateSlipOk %v: %+v by %+v", got, s, l)
			}
			want, wantSaid := saidCommit(l, b, s)
			got, said := impl.GateCommit(l, b, s)
			if said != wantSaid || !same(got, want) {
				t.Fatalf("%+v: %+v, not %+v\n%s\nnot %s\nof %s", s, said, wantSaid, bookText(got), bookText(want), bookText(b))
			}
			seen[fmt.Sprintf("spoiled, code %d", said.Code)]++
			if got, said := impl.GatePass(l, b, door, a); said.Code == 0 {
				b = got
			}
		}
		c.unsettle(&b)
		holdSlip(t, l, b, "d1", c.ask(l, b), seen)
	}
	comesUp(t, seen, 60, "verb 1 code 0", "verb 2 code 0", "verb 3 code 0", "verb 4 code 0", "verb 5 code 0", "verb 6 code 0", "verb 1 code 2", "verb 2 code 2",
		"verb 1 code 3", "verb 2 code 3", "verb 3 code 3", "verb 4 code 3", "verb 6 code 3", "verb 1 code 4", "verb 2 code 4", "verb 3 code 4", "verb 4 code 4", "verb 5 code 4", "verb 6 code 4",
		"verb 2 code 5", "verb 3 code 5", "verb 2 code 6", "verb 3 code 6", "verb 1 code 7", "verb 2 code 7", "verb 1 code 9", "verb 2 code 9", "verb 4 code 11",
		"10 is not looked for", "spoiled, code 0", "spoiled, code 2", "spoiled, code 12")
	comesUp(t, seen, 20, "verb 1 code 1", "verb 2 code 1", "verb 3 code 2", "verb 4 code 2", "verb 5 code 2", "verb 6 code 2", "verb 2 code 8",
		"verb 1 code 11", "verb 2 code 11", "verb 3 code 11", "verb 5 code 11", "verb 6 code 11", "11 behind 10", "spoiled, code 4", "spoiled, code 10")
	comesUp(t, seen, 5, "spoiled, code 3")
}

// holdSlip holds a slip against the document's words, and against what GatePass says of the view.
func holdSlip(t *testing.T, l impl.GateLaw, view impl.GateBook, door string, a impl.GateAsk, seen map[string]int) impl.GateSlip {
	t.Helper()
	want, wantSaid := saidSlipOf(l, view, door, a)
	got, said := impl.GateSlipOf(l, view, door, a)
	if said != wantSaid || !same(got, want) {
		t.Fatalf("%+v through %s: %+v %+v, not %+v %+v of %s", a, door, said, got, wantSaid, want, bookText(view))
	}
	_, passed := impl.GatePass(l, view, door, a)
	switch {
	case passed.Code == 10 && said.Code == 0:
		seen["10 is not looked for"]++
	case passed.Code == 10 && said.Code == 11:
		seen["11 behind 10"]++
	case passed.Code == 0 && said != (impl.GateSaid{}) || passed.Code != 0 && said != passed:
		t.Fatalf("%+v through %s: %+v, but GatePass says %+v of %s", a, door, said, passed, bookText(view))
	}
	if said.Code == 0 {
		// At once all is as it was seen.
		book, committed := impl.GateCommit(l, view, got)
		if asked, _ := impl.GatePass(l, view, door, a); !impl.GateSlipOk(l, got) || committed != passed || !same(book, asked) {
			t.Fatalf("%+v, committed at once: %+v, not %+v of %s", got, committed, passed, bookText(view))
		}
	} else if !same(got, impl.GateSlip{}) {
		t.Fatalf("with the code %d there is a slip: %+v", said.Code, got)
	}
	seen[fmt.Sprintf("verb %d code %d", a.Verb, said.Code)]++
	return got
}

// late is a slip and the step of the history at which its view was the book.
type late struct {
	slip impl.GateSlip
	step int
}

// Promise 11: slips of all views of a history, committed behind anything that may happen to a book.
func TestLateSlips(t *testing.T) {
	t.Parallel()
	c := chance{rand.New(rand.NewSource(16))}
	seen := map[string]int{}
	for range 700 {
		l, b := c.drawnAsks()
		history := []impl.GateBook{b}
		var slips []late
		for range 25 {
			step := len(history) - 1 - min(c.Intn(len(history)), c.Intn(len(history)))
			view := history[step]
			if s, said := impl.GateSlipOf(l, view, c.text("d1", "d2", "d3"), c.ask(l, view)); said.Code == 0 {
				slips = append(slips, late{s, step})
			}
			for range min(4, len(slips)) {
				s := slips[c.Intn(len(slips))]
				holdLate(t, l, b, s, len(history)-1-s.step, seen)
			}
			b = c.goneOn(l, b, slips, seen)
			holdBounds(t, l, b)
			history = append(history, b)
		}
	}
	for verb := 1; verb <= 6; verb++ {
		comesUp(t, seen, 100, fmt.Sprintf("verb %d code 0 late", verb), fmt.Sprintf("verb %d code 12 at 0", verb))
		comesUp(t, seen, 5, fmt.Sprintf("verb %d code 11", verb))
		if verb < 5 {
			comesUp(t, seen, 100, fmt.Sprintf("verb %d code 12 at 1", verb))
		}
	}
	comesUp(t, seen, 100, "verb 1 code 10", "verb 2 code 10", "verb 1 code 12 at 2", "draw", "back", "tick", "bound", "sweep", "ask", "commit")
	comesUp(t, seen, 20, "verb 2 code 12 at 2", "verb 1 code 12 at 3", "verb 2 code 12 at 3")
}

func holdLate(t *testing.T, l impl.GateLaw, b impl.GateBook, s late, age int, seen map[string]int) {
	t.Helper()
	place, isLate := saidLate(b, s.slip)
	want, wantSaid := b, impl.GateSaid{Code: 12, Place: place}
	if !isLate {
		want, wantSaid = impl.GatePass(l, b, s.slip.Door, s.slip.Ask)
	}
	got, said := impl.GateCommit(l, b, s.slip)
	if said != wantSaid || !same(got, want) {
		t.Fatalf("%+v: %+v, not %+v\n%s\nnot %s\nof %s", s.slip, said, wantSaid, bookText(got), bookText(want), bookText(b))
	}
	what := fmt.Sprintf("verb %d code %d", s.slip.Ask.Verb, said.Code)
	switch said.Code {
	case 0:
		if age > 0 {
			what += " late"
		}
	case 10, 11:
	case 12:
		what = fmt.Sprintf("%s at %d", what, said.Place)
	default:
		t.Fatalf("%+v of a view that is %d steps old: %+v of %s", s.slip, age, said, bookText(b))
	}
	seen[what]++
}

// goneOn is the book behind one thing that may happen to it.
func (c chance) goneOn(l impl.GateLaw, b impl.GateBook, slips []late, seen map[string]int) impl.GateBook {
	var next impl.GateBook
	var what string
	code := 0
	switch n := c.Intn(10); {
	case n < 3:
		var said impl.GateSaid
		next, said = impl.GatePass(l, b, c.text("d1", "d2"), c.ask(l, b))
		what, code = "ask", said.Code
	case n < 5 && len(slips) > 0:
		var said impl.GateSaid
		next, said = impl.GateCommit(l, b, slips[c.Intn(len(slips))].slip)
		what, code = "commit", said.Code
	case n < 7:
		next, code = impl.GateSweep(l, b)
		what = "sweep"
	default:
		a := c.purseAsk(l, b)
		next, code = a.of(l, b)
		what = a.what
	}
	if code != 0 {
		return b
	}
	seen[what]++
	return next
}
