package tests

import (
	"fmt"
	"math/rand"
	"slices"
	"strconv"
	"testing"

	"loop.example/wharfgate/impl"
)

// The document's words of chapter 7 a second time, and promises 7, 8 and 9 held over drawn rows of sweeps.

// saidLinked says whether the object at a place names another one by a link of a role.
func saidLinked(l impl.GateLaw, b impl.GateBook, place, other, role int) bool {
	o := b.Objects[place]
	for _, s := range l.Shapes {
		for i, f := range s.Fields {
			if s.Kind == o.Kind && f.Kind == 4 && f.Role == role && f.To == b.Objects[other].Kind && o.Values[i] == b.Objects[other].Name {
				return true
			}
		}
	}
	return false
}

func saidMark(l impl.GateLaw, b impl.GateBook) []int {
	var out []int
	for i, o := range b.Objects {
		for j, owner := range b.Objects {
			if !o.Ending && owner.Ending && saidLinked(l, b, i, j, 3) {
				out = append(out, i)
				break
			}
		}
	}
	return out
}

// saidGreatest is, of all sets of a list's places without Holds with which all goes that holds one of them or is owned by one, the greatest:
// every set is tried, and the greatest has all that is in one of those that are whole.
func saidGreatest(l impl.GateLaw, b impl.GateBook, from []int) []int {
	needs := make([]int, len(b.Objects))
	may := 0
	for _, i := range from {
		if len(b.Objects[i].Holds) == 0 {
			may |= 1 << i
		}
		for j := range b.Objects {
			if saidLinked(l, b, j, i, 1) || saidLinked(l, b, j, i, 3) {
				needs[i] |= 1 << j
			}
		}
	}
	all := 0
	for set := may; set > 0; set = (set - 1) & may {
		whole := true
		for i := range b.Objects {
			if set&(1<<i) != 0 && needs[i]&^set != 0 {
				whole = false
			}
		}
		if whole {
			all |= set
		}
	}
	return slices.DeleteFunc(placesOf(b), func(i int) bool { return all&(1<<i) == 0 })
}

func placesOf(b impl.GateBook) []int {
	var out []int
	for i := range b.Objects {
		out = append(out, i)
	}
	return out
}

func saidEnding(b impl.GateBook) []int {
	return slices.DeleteFunc(placesOf(b), func(i int) bool { return !b.Objects[i].Ending })
}

// saidEnded is the least set that has all Ending objects and all that are owned by one of it.
func saidEnded(l impl.GateLaw, b impl.GateBook) []int {
	b = withRoom(b)
	for {
		more := saidMark(l, b)
		if len(more) == 0 {
			return saidEnding(b)
		}
		for _, i := range more {
			b.Objects[i].Ending = true
		}
	}
}

func saidSweep(l impl.GateLaw, b impl.GateBook) (impl.GateBook, int) {
	if !saidBookOk(l, b) {
		return impl.GateBook{}, 1
	}
	mark := saidMark(l, b)
	if len(mark) == 0 && len(saidGreatest(l, b, saidEnding(b))) == 0 {
		return b, 2
	}
	was := b
	b = withRoom(b)
	for _, i := range mark {
		b.Now++
		b.Objects[i].Ending, b.Objects[i].Version = true, b.Now
	}
	going := saidGreatest(l, b, saidEnding(b))
	var stay []impl.GateObject
	for i, o := range b.Objects {
		if !slices.Contains(going, i) {
			stay = append(stay, saidUpright(l, b, o, going))
			continue
		}
		for j, g := range b.Ledgers {
			if saidUnder(l.Teams, o.Team, g.Team) {
				b.Ledgers[j].Free += saidWeighs(l, o, g.Resource)
			}
		}
	}
	b.Objects = stay
	for i, o := range b.Objects {
		if o.Version < 0 {
			b.Now++
			b.Objects[i].Version = b.Now
		}
	}
	if b.Now > 1000000 {
		return was, 3
	}
	return b, 0
}

// saidUpright is an object without the links by which it leans on what goes; the Version -1 tells that there was one.
func saidUpright(l impl.GateLaw, b impl.GateBook, o impl.GateObject, going []int) impl.GateObject {
	s := l.Shapes[slices.IndexFunc(l.Shapes, func(s impl.GateShape) bool { return s.Kind == o.Kind })]
	for i, f := range s.Fields {
		for _, j := range going {
			if f.Kind == 4 && f.Role == 2 && f.To == b.Objects[j].Kind && o.Values[i] == b.Objects[j].Name {
				o.Values[i], o.Version = "", -1
				break
			}
		}
	}
	return o
}

// endBook draws a book of endLaw with so many objects; how many are Ending, have Holds and links hangs on the draw.
func (c chance) endBook(size int) impl.GateBook {
	b := impl.GateBook{Now: 10 + c.Intn(9), Tick: 4, Given: 3}
	if c.oneIn(5) {
		b.Now = 1000000 - c.Intn(5)
	}
	boxes := c.Intn(size/2 + 1)
	ending, held, linked := c.Intn(4), 1+c.Intn(12), 1+c.Intn(5)
	l := endLaw()
	for n := range size {
		s := l.Shapes[1]
		if n < boxes {
			s = l.Shapes[0]
		}
		o := impl.GateObject{Kind: s.Kind, Name: "n" + strconv.Itoa(10+n), Team: l.Teams[c.Intn(len(l.Teams))].Name, Version: 1 + c.Intn(9), Ending: c.Intn(4) < ending}
		for _, f := range s.Fields {
			value := ""
			switch {
			case f.Kind == 1:
				value = strconv.Itoa(c.Intn(9))
			case !c.oneIn(linked):
			case f.To == "box" && boxes > 0:
				value = "n" + strconv.Itoa(10+c.Intn(boxes))
			case f.To == "thing" && boxes < size:
				value = "n" + strconv.Itoa(10+boxes+c.Intn(size-boxes))
			}
			o.Values = append(o.Values, value)
		}
		if c.oneIn(held) {
			o.Holds = []string{"h", "k"}[:1+c.Intn(2)]
		}
		b.Objects = append(b.Objects, o)
	}
	for _, team := range namesOf(l.Teams) {
		for _, resource := range []string{"box", "thing", "w"} {
			if c.oneIn(4) && len(b.Ledgers) < 10 {
				b.Ledgers = append(b.Ledgers, impl.GateLedger{Team: team, Resource: resource, Free: c.Intn(20)})
			}
		}
	}
	for _, g := range b.Ledgers {
		if c.oneIn(3) {
			b.Purses = append(b.Purses, impl.GatePurse{Door: "d1", Team: g.Team, Resource: g.Resource, Amount: 1 + c.Intn(9), Until: b.Tick + c.Intn(11)})
		}
	}
	balance(l, &b)
	return b
}

// drawnEnds is a law and a book of it, both ok, of few objects: of the tests' own law, or of a drawn one.
func (c chance) drawnEnds() (impl.GateLaw, impl.GateBook) {
	if c.oneIn(3) {
		l, b := c.drawnBook()
		if c.oneIn(5) {
			b.Now = 1000000 - c.Intn(4)
		}
		return l, b
	}
	return endLaw(), c.endBook(c.Intn(9))
}

func TestEndsAsSaid(t *testing.T) {
	t.Parallel()
	c := chance{rand.New(rand.NewSource(10))}
	seen := map[string]int{}
	for range 10000 {
		l, b := c.drawnEnds()
		if !saidBookOk(l, b) {
			t.Fatalf("the drawn book is not ok: %s of %s", saidFault(l, b), bookText(b))
		}
		if c.oneIn(6) {
			c.unsettle(&b)
		}
		b = withRoom(b)
		was := wholeText(l, b)
		var mark, going, doomed []int
		if saidBookOk(l, b) {
			mark, going, doomed = saidMark(l, b), saidGreatest(l, b, saidEnding(b)), saidGreatest(l, b, saidEnded(l, b))
		}
		holdPlaces(t, "GateMark", b, impl.GateMark(l, b), mark)
		holdPlaces(t, "GateGoing", b, impl.GateGoing(l, b), going)
		holdPlaces(t, "GateDoomed", b, impl.GateDoomed(l, b), doomed)
		want, wantCode := saidSweep(l, b)
		got, code := impl.GateSweep(l, b)
		if code != wantCode || !same(got, want) {
			t.Fatalf("GateSweep %d, not %d\n%s\nnot %s\nof %s", code, wantCode, bookText(got), bookText(want), bookText(b))
		}
		if wholeText(l, b) != was {
			t.Fatal("something was written into the law or the book")
		}
		seen["code "+strconv.Itoa(code)]++
		seen[fmt.Sprint("marks ", len(mark) > 0, ", lets go ", len(going) > 0)]++
		if code == 0 && len(got.Objects) > 0 && len(got.Objects) < len(b.Objects) && got.Now > b.Now+len(mark) {
			seen["leaned"]++
		}
		if len(doomed) > len(going) && len(doomed) < len(b.Objects) {
			seen["doomed, but not yet to go"]++
		}
	}
	comesUp(t, seen, 300, "code 0", "code 1", "code 2", "marks true, lets go true", "marks true, lets go false", "marks false, lets go true", "leaned", "doomed, but not yet to go")
	comesUp(t, seen, 50, "code 3")
}

func holdPlaces(t *testing.T, what string, b impl.GateBook, got, want []int) {
	t.Helper()
	if !slices.Equal(got, want) {
		t.Fatalf("%s %v, not %v of %s", what, got, want, bookText(b))
	}
}

// Promises 7, 8 and 9: small books, whose doomed ones the words tell, and great ones.
func TestRowsOfSweeps(t *testing.T) {
	t.Parallel()
	c := chance{rand.New(rand.NewSource(11))}
	seen := map[string]int{}
	for n := range 6000 {
		l, b := c.drawnEnds()
		if n%5 == 0 {
			l, b = endLaw(), c.endBook(10+c.Intn(31))
		}
		b.Now = 20
		doomed := impl.GateDoomed(l, b)
		if len(b.Objects) < 10 {
			doomed = saidGreatest(l, b, saidEnded(l, b))
		}
		last, sweeps := sweptOut(t, l, b)
		holdEnds(t, l, b, last, doomed)
		seen[fmt.Sprint("sweeps ", min(sweeps, 4))]++
		seen[fmt.Sprint("some go ", len(doomed) > 0, ", some stay ", len(last.Objects) > 0)]++
		if len(saidEnding(last)) > len(saidEnding(b)) {
			seen["became Ending and stays"]++
		}
	}
	comesUp(t, seen, 50, "sweeps 0", "sweeps 1", "sweeps 2", "sweeps 3", "sweeps 4", "some go true, some stay true", "some go true, some stay false", "some go false, some stay true", "became Ending and stays")
}

// sweptOut sweeps until there is nothing to do; each sweep leaves a book that is ok, and takes whole sets.
func sweptOut(t *testing.T, l impl.GateLaw, b impl.GateBook) (impl.GateBook, int) {
	t.Helper()
	first := b
	for sweeps := 0; ; sweeps++ {
		got, code := impl.GateSweep(l, b)
		if code == 2 && same(got, b) {
			return b, sweeps
		}
		if code != 0 || sweeps == len(first.Objects) {
			t.Fatalf("%d behind %d sweeps of %s", code, sweeps, bookText(first))
		}
		holdBounds(t, l, got)
		for _, o := range got.Objects {
			if saidLoose(l, got, o) {
				t.Fatalf("%+v names what is not there: %s", o, bookText(got))
			}
		}
		holdWhole(t, l, b, got)
		b = got
	}
}

// holdWhole asks that what is held by one that stays, or owns it, stays.
func holdWhole(t *testing.T, l impl.GateLaw, b, got impl.GateBook) {
	t.Helper()
	for i := range b.Objects {
		for j := range b.Objects {
			stands := saidLinked(l, b, i, j, 1) || saidLinked(l, b, i, j, 3)
			if stands && isIn(got, b.Objects[i]) && !isIn(got, b.Objects[j]) {
				t.Fatalf("%+v stays, and %+v does not, of %s", b.Objects[i], b.Objects[j], bookText(b))
			}
		}
	}
}

func isIn(b impl.GateBook, o impl.GateObject) bool {
	return slices.ContainsFunc(b.Objects, func(p impl.GateObject) bool { return p.Kind == o.Kind && p.Name == o.Name })
}

// holdEnds holds the last book against the first: just the doomed are gone, what was Ending or is owned by such is Ending,
// and of the others there is no more than emptied links, with which they leaned on what is gone, and a version for that.
func holdEnds(t *testing.T, l impl.GateLaw, b, last impl.GateBook, doomed []int) {
	t.Helper()
	ended := saidEnded(l, b)
	var want []impl.GateObject
	var versions []int
	for i, o := range withRoom(b).Objects {
		if slices.Contains(doomed, i) {
			continue
		}
		o = saidUpright(l, b, o, doomed)
		if slices.Contains(ended, i) && !o.Ending {
			o.Ending, o.Version = true, -1
		}
		want = append(want, o)
		if o.Version < 0 {
			versions = append(versions, i)
		}
	}
	got := withRoom(last)
	if len(got.Objects) != len(want) {
		t.Fatalf("not just the doomed are gone: %s\nof %s", bookText(last), bookText(b))
	}
	own := map[int]int{}
	for i := range want {
		if want[i].Version < 0 {
			if version := got.Objects[i].Version; version <= b.Now || version > last.Now || own[version] > 0 {
				t.Fatalf("%+v has no version of its own, of %s", last.Objects[i], bookText(last))
			}
			own[got.Objects[i].Version]++
			got.Objects[i].Version = -1
		}
	}
	if !same(got.Objects, want) {
		t.Fatalf("%s\nnot %+v\nof %s", bookText(last), want, bookText(b))
	}
	if len(versions) == 0 && len(doomed) == 0 && !same(last, b) {
		t.Fatalf("nothing was to be done, and yet: %s\nof %s", bookText(last), bookText(b))
	}
	if !same(last.Grants, b.Grants) || !same(last.Purses, b.Purses) || last.Tick != b.Tick || last.Given != b.Given {
		t.Fatalf("more has changed than objects: %s\nof %s", bookText(last), bookText(b))
	}
}

// Sweeps between other things: holds that are taken out, objects that are ended, draws and ticks. All that is in the book stays linked and within its bounds.
func TestSweepsBetweenOtherThings(t *testing.T) {
	t.Parallel()
	c := chance{rand.New(rand.NewSource(12))}
	seen := map[string]int{}
	for range 150 {
		l, b := endLaw(), c.endBook(5+c.Intn(20))
		b.Now = 20
		for range 40 {
			switch c.Intn(4) {
			case 0:
				b = c.nudged(b)
			case 1:
				b, _ = c.purseAsk(l, b).of(l, b)
			default:
				was := b
				var code int
				b, code = impl.GateSweep(l, b)
				seen["code "+strconv.Itoa(code)]++
				if code != 0 && !same(b, was) {
					t.Fatalf("with the code %d something has changed", code)
				}
				holdWhole(t, l, was, b)
			}
			holdBounds(t, l, b)
		}
	}
	comesUp(t, seen, 100, "code 0", "code 2")
}

// nudged takes the holds from an object, or ends one, as an ask would.
func (c chance) nudged(b impl.GateBook) impl.GateBook {
	b = withRoom(b)
	if len(b.Objects) == 0 {
		return b
	}
	o := &b.Objects[c.Intn(len(b.Objects))]
	if c.oneIn(2) {
		o.Holds = nil
	} else {
		o.Ending = true
	}
	b.Now++
	o.Version = b.Now
	return b
}
