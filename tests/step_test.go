package tests

import (
	"fmt"
	"math"
	"slices"
	"strconv"
	"strings"
	"testing"

	"loop.example/wharfgate/impl"
)

// eventOf reads an event; a door is its place.
//
//	look DOOR, asks DOOR ASK, commits DOOR AT, loses DOOR AT, draws DOOR TEAM RESOURCE AMOUNT, backs DOOR TEAM RESOURCE,
//	ticks, dies DOOR, rises DOOR, sweeps, binds TEAM RESOURCE AMOUNT
func eventOf(text string) impl.GateEvent {
	words := strings.Fields(text)
	number := func(i int) int {
		n, err := strconv.Atoi(words[i])
		if err != nil {
			panic(err)
		}
		return n
	}
	e := impl.GateEvent{Kind: 1 + slices.Index([]string{"look", "asks", "commits", "loses", "draws", "backs", "ticks", "dies", "rises", "sweeps", "binds"}, words[0])}
	if usesOf(e.Kind).door {
		e.Door = number(1)
	}
	switch e.Kind {
	case 0:
		panic(text)
	case impl.GateAsks:
		e.Ask = askOf(strings.Join(words[2:], " "))
	case impl.GateCommits, impl.GateLoses:
		e.At = number(2)
	case impl.GateDraws:
		e.Team, e.Resource, e.Amount = words[2], words[3], number(4)
	case impl.GateBacks:
		e.Team, e.Resource = words[2], words[3]
	case impl.GateBinds:
		e.Team, e.Resource, e.Amount = words[1], words[2], number(3)
	}
	return e
}

// uses is what of an event its kind uses.
type uses struct{ door, ask, at, account, amount bool }

func usesOf(kind int) uses {
	return uses{
		door:    kind >= 1 && kind <= 6 || kind == 8 || kind == 9,
		ask:     kind == 2,
		at:      kind == 3 || kind == 4,
		account: kind == 5 || kind == 6 || kind == 11,
		amount:  kind == 5 || kind == 11,
	}
}

// othersOf is events that differ from one in nothing that its kind uses.
func othersOf(e impl.GateEvent) []impl.GateEvent {
	var out []impl.GateEvent
	u := usesOf(e.Kind)
	for i, number := range []int{-1, 1, 3, math.MinInt, math.MaxInt} {
		other := e
		if !u.door {
			other.Door = number
		}
		if !u.ask {
			other.Ask = append(fullAsks(), impl.GateAsk{Who: "\xff", Verb: number, Values: oddTexts()})[(i+3)%7]
		}
		if !u.at {
			other.At = number
		}
		if !u.account {
			other.Team, other.Resource = []string{"", "dev", "lab", "\xff", "none"}[i], []string{"need", "", "\x00", "job", "x"}[i]
		}
		if !u.amount {
			other.Amount = number
		}
		out = append(out, other)
	}
	return out
}

// stepCase is an event, what is said ("CODE PLACE VERSION"), and which lines of the world change.
type stepCase struct {
	event   string
	said    string
	changes string
}

// trySteps also asks that the world stays ok, and that what an event does not use changes nothing.
func trySteps(t *testing.T, l impl.GateLaw, w impl.GateWorld, cases []stepCase) {
	t.Helper()
	if !impl.GateWorldOk(l, w) {
		t.Fatalf("not ok: %s", worldText(w))
	}
	for _, c := range cases {
		e := eventOf(c.event)
		got, said := impl.GateStep(l, w, e)
		if saidText(said) != c.said {
			t.Errorf("%s: %s, not %s", c.event, saidText(said), c.said)
		}
		if changes := changedLines(worldLines(w), worldLines(got)); changes != c.changes {
			t.Errorf("%s: %s\nnot %s", c.event, changes, c.changes)
		}
		if !impl.GateWorldOk(l, got) {
			t.Errorf("%s: not ok: %s", c.event, worldText(got))
		}
		if said.Code != 0 && (e.Kind != impl.GateCommits || said.Code == 13) && !same(got, w) {
			t.Errorf("%s: with the code %d the world is %s", c.event, said.Code, worldText(got))
		}
		if want, wantSaid := saidStep(l, w, e); said != wantSaid || !same(got, want) {
			t.Errorf("%s: the document says %+v%s", c.event, wantSaid, worldText(want))
		}
		for i, other := range othersOf(e) {
			if again, saidAgain := impl.GateStep(l, w, other); saidAgain != said || !same(again, got) {
				t.Errorf("%s: what it does not use, %d: %+v%s", c.event, i, saidAgain, worldText(again))
			}
		}
	}
}

// Each event, done.
func TestStepEvents(t *testing.T) {
	trySteps(t, passLaw(), stepWorld(), []stepCase{
		{"look 0", "0 0 0", "- d1 sees now 30 tick 7 given 16; + d1 sees now 31 tick 7 given 16; + d1 sees object mark m2 ops 31 ."},
		{"look 1", "0 0 0", ""},
		{"asks 0 ann make mark m3 ops . +h +k", "0 0 0", "+ d1 has d1 ann make mark m3 ops . +h +k given 16 wants mark m3 0"},
		{"asks 1 ann make mark m3 ops .", "0 0 0", "+ d2 has d2 ann make mark m3 ops . given 16 wants mark m3 0"},
		{"asks 1 ann change job j1 5 9,small,b1,j5,,v1", "0 0 0", "+ d2 has d2 ann change job j1 5 9,small,b1,j5,,v1 given 16 wants job j1 5, job j5 7"},
		{"asks 1 ann end mark m2 31", "0 0 0", "+ d2 has d2 ann end mark m2 31 given 16 wants mark m2 31"},
		{"asks 1 bob letgo job j1 h", "0 0 0", "+ d2 has d2 bob letgo job j1 h given 16 wants job j1 5"},
		{"asks 1 ann give zoe 15 job lab j", "0 0 0", "+ d2 has d2 ann give zoe 15 job lab j given 16 wants"},
		{"asks 1 ann take 4", "0 0 0", "+ d2 has d2 ann take 4 given 16 wants"},
		{"commits 0 1", "0 0 32", "- now 31 tick 7 given 16; - object job j1 lab 5 4,small,b1,,,v1 +h +k; - d1 has d1 ann change job j1 5 4,small,b1,j5,,v1 given 16 wants job j1 5, job j5 7; " +
			"+ now 32 tick 7 given 16; + object job j1 lab 32 4,small,b1,j5,,v1 +h +k"},
		{"commits 0 2", "0 0 32", "- now 31 tick 7 given 16; - d1 has d1 ann give zoe 1 job . . given 16 wants; + now 32 tick 7 given 32; + grant 32 zoe ann 1 job . ."},
		{"commits 3 0", "0 0 32", "- now 31 tick 7 given 16; - object mark m1 ops 8 .; - d4 has d4 ann end mark m1 8 given 16 wants mark m1 8; + now 32 tick 7 given 16; + object mark m1 ops 32 . ending"},
		{"loses 0 0", "0 0 0", "- d1 has d1 ann make mark m2 ops . +h given 16 wants mark m2 0"},
		{"loses 0 2", "0 0 0", "- d1 has d1 ann give zoe 1 job . . given 16 wants"},
		{"loses 3 5", "0 0 0", "- d4 has d4 ann take 4 given 15 wants"},
		{"draws 0 dev need 2", "0 0 0", "- ledger dev need 6 61; - purse d1 dev need 6 7; + ledger dev need 4 61; + purse d1 dev need 8 17"},
		{"draws 3 lab need 9", "0 0 0", "- ledger lab need 9 60; + ledger lab need 0 60; + purse d4 lab need 9 17"},
		{"backs 1 dev need", "0 0 0", "- ledger dev need 6 61; - purse d2 dev need 30 7; + ledger dev need 36 61"},
		{"ticks", "0 0 0", "- now 31 tick 7 given 16; - ledger dev need 6 61; - purse d1 dev need 6 7; - purse d2 dev need 30 7; + now 31 tick 8 given 16; + ledger dev need 42 61"},
		{"dies 0", "0 0 0", "- d1 is up; - d1 has d1 ann make mark m2 ops . +h given 16 wants mark m2 0; - d1 has d1 ann change job j1 5 4,small,b1,j5,,v1 given 16 wants job j1 5, job j5 7; " +
			"- d1 has d1 ann give zoe 1 job . . given 16 wants; + d1 is dead"},
		{"dies 1", "0 0 0", "- d2 is up; + d2 is dead"},
		{"rises 2", "0 0 0", "- d3 is dead; + d3 is up"},
		{"sweeps", "0 0 0", "- now 31 tick 7 given 16; - object berth b2 ops 4 9,b ending; - object job j2 pit 20 8,big,b2,j1,j3,; - object job j3 lab 6 5,,,,, ending; " +
			"- ledger dev job 5 19; - ledger dev need 6 61; - ledger lab need 9 60; - ledger ops room 3 52; " +
			"+ now 32 tick 7 given 16; + ledger dev job 7 19; + ledger dev need 19 61; + ledger lab need 22 60; + ledger ops room 12 52"},
		{"binds dev need 55", "0 0 0", "- ledger dev need 6 61; + ledger dev need 0 55"},
		{"binds ops mark 3", "0 0 0", "+ ledger ops mark 1 3"},
	})
	// A door that has seen nothing sees all.
	got, said := impl.GateStep(passLaw(), stepWorld(), eventOf("look 3"))
	want := stepWorld()
	want.Doors[3].View = want.Book
	if said != (impl.GateSaid{}) || !same(got, want) {
		t.Errorf("look 3: %+v%s", said, worldText(got))
	}
}

// Each code of each call; the Book is as it was, and a slip that was committed is gone.
func TestStepCodes(t *testing.T) {
	w := stepWorld()
	trySteps(t, passLaw(), w, []stepCase{
		{"asks 1 ann make mark m3 none .", "2 0 0", ""}, {"asks 1 . take 4", "2 0 0", ""}, {"asks 1 ann take 0", "2 0 0", ""},
		{"asks 1 ann make mark m2 ops .", "3 0 0", ""}, {"asks 0 ann end mark m2 0", "3 0 0", ""}, {"asks 1 ann take 2", "3 0 0", ""},
		{"asks 1 zoe make mark m3 ops .", "4 0 0", ""}, {"asks 1 bob give zoe 1 . . .", "4 0 0", ""},
		{"asks 1 ann end job j1 4", "5 0 5", ""}, {"asks 1 ann change job j2 19 8,big,b2,j1,j3,", "5 0 20", ""},
		{"asks 1 ann end job j3 0", "6 0 0", ""},
		{"asks 1 ann make vol v3 dev ,slowly,x", "7 2 0", ""},
		{"asks 1 ann change job j1 0 4,big,b1,,,v1", "8 1 0", ""},
		{"asks 1 ann change job j1 0 4,small,b1,,none,v1", "9 4 0", ""},
		// 10 is not looked for.
		{"asks 1 ann make vol v3 pit 1000,,", "0 0 0", "+ d2 has d2 ann make vol v3 pit 1000,, given 16 wants vol v3 0"},
		{"asks 1 ann letgo job j1 x", "11 0 0", ""},
		{"commits 0 0", "12 1 0", "- d1 has d1 ann make mark m2 ops . +h given 16 wants mark m2 0"},
		{"commits 3 1", "4 0 0", "- d4 has d4 zoe take 4 given 16 wants"},
		{"commits 3 2", "10 4 0", "- d4 has d4 ann make vol v3 pit 1,, given 16 wants vol v3 0"},
		{"commits 3 3", "11 0 0", "- d4 has d4 ann letgo job j1 x given 16 wants"},
		{"commits 3 4", "5 0 5", "- d4 has d4 ann end job j1 9 given 16 wants job j1 5"},
		{"commits 3 5", "12 0 0", "- d4 has d4 ann take 4 given 15 wants"},
		{"draws 0 none need 1", "2 0 0", ""}, {"draws 0 dev none 1", "2 0 0", ""}, {"draws 0 dev need 0", "2 0 0", ""}, {"draws 0 dev need -1", "2 0 0", ""}, {"draws 0 dev need 1000001", "2 0 0", ""},
		{"draws 0 dev need 7", "3 0 0", ""}, {"draws 3 dev need 1000000", "3 0 0", ""},
		{"backs 0 ops room", "2 0 0", ""}, {"backs 3 dev need", "2 0 0", ""}, {"backs 0 none need", "2 0 0", ""},
		{"binds none need 5", "2 0 0", ""}, {"binds dev N 5", "2 0 0", ""}, {"binds dev need -1", "2 0 0", ""}, {"binds dev need 1000001", "2 0 0", ""}, {"binds dev need 54", "3 0 0", ""}, {"binds ops mark 1", "3 0 0", ""},
	})
	w.Doors[1].Slips = []impl.GateSlip{
		slipOf("d2 ann take 2", 16, ""), slipOf("d2 ann end job j3 0", 16, "job j3 6"), slipOf("d2 ann make berth b3 dev ,a", 16, ""), slipOf("d2 ann change job j1 5 4,big,b1,,,v1", 16, "job j1 5"),
		slipOf("d2 ann change job j1 5 4,small,b1,,none,v1", 16, "job j1 5"), slipOf("d2 ann end mark m1 8", 16, "mark m1 8, job none 0, mark m2 30"),
	}
	trySteps(t, passLaw(), w, []stepCase{
		{"commits 1 0", "3 0 0", "- d2 has d2 ann take 2 given 16 wants"},
		{"commits 1 1", "6 0 0", "- d2 has d2 ann end job j3 0 given 16 wants job j3 6"},
		{"commits 1 2", "7 0 0", "- d2 has d2 ann make berth b3 dev ,a given 16 wants"},
		{"commits 1 3", "8 1 0", "- d2 has d2 ann change job j1 5 4,big,b1,,,v1 given 16 wants job j1 5"},
		{"commits 1 4", "9 4 0", "- d2 has d2 ann change job j1 5 4,small,b1,,none,v1 given 16 wants job j1 5"},
		{"commits 1 5", "12 3 0", "- d2 has d2 ann end mark m1 8 given 16 wants mark m1 8, job none 0, mark m2 30"},
	})
	// Nothing to sweep, and no tick, version, purse or ledger left.
	idle := impl.GateWorld{Book: bookOf("now 1000000 tick 1000000 given 1\n grant 1 ann . 12345 . . ."), Doors: doorsOf(bookOf("now 1000000 tick 0 given 1\n grant 1 ann . 12345 . . ."), "d1")}
	idle.Doors[0].Slips = []impl.GateSlip{slipOf("d1 ann give zoe 1 . . .", 1, "")}
	trySteps(t, passLaw(), idle, []stepCase{
		{"sweeps", "2 0 0", ""}, {"ticks", "2 0 0", ""}, {"asks 0 ann give zoe 1 . . .", "11 0 0", ""}, {"commits 0 0", "11 0 0", "- d1 has d1 ann give zoe 1 . . . given 1 wants"},
	})
	late := stepWorld()
	late.Book.Now = 1000000
	trySteps(t, passLaw(), late, []stepCase{{"sweeps", "3 0 0", ""}})
	late.Book.Now = 999999
	if _, said := impl.GateStep(passLaw(), late, eventOf("sweeps")); said != (impl.GateSaid{}) {
		t.Errorf("a sweep up to GateMaxVersion: %+v", said)
	}
	trySteps(t, bookLaw(), impl.GateWorld{Book: manyPurses(24), Doors: doorsOf(impl.GateBook{}, "d1", "dz")}, []stepCase{
		{"draws 1 dev need 1", "4 0 0", ""}, {"draws 0 dev need 1", "0 0 0", "- ledger dev need 20 40; - purse d1 dev need 6 7; + ledger dev need 19 40; + purse d1 dev need 7 17"},
	})
	trySteps(t, bookLaw(), impl.GateWorld{Book: manyLedgers(10)}, []stepCase{{"binds ops need 50", "4 0 0", ""}, {"binds dev need 41", "0 0 0", "- ledger dev need 20 40; + ledger dev need 21 41"}})
}

// sameForDoor is an event of each kind that uses a door, at a door.
func sameForDoor(door int) []impl.GateEvent {
	var out []impl.GateEvent
	for _, text := range []string{"look 0", "asks 0 ann take 4", "commits 0 0", "loses 0 0", "draws 0 dev need 1", "backs 0 dev need", "dies 0", "rises 0"} {
		e := eventOf(text)
		e.Door = door
		out = append(out, e)
	}
	return out
}

// Code 13: of which events, and of which not.
func TestStepCannot(t *testing.T) {
	w := stepWorld()
	isNone := func(what string, w impl.GateWorld, e impl.GateEvent, want bool) {
		t.Helper()
		got, said := impl.GateStep(passLaw(), w, e)
		if (said.Code == 13) != want || want && (said != impl.GateSaid{Code: 13} || !same(got, w)) {
			t.Errorf("%s: event %d at %d: %+v%s", what, e.Kind, e.Door, said, changedLines(worldLines(w), worldLines(got)))
		}
		if _, wantSaid := saidStep(passLaw(), w, e); said != wantSaid {
			t.Errorf("%s: event %d at %d: the document says %+v", what, e.Kind, e.Door, wantSaid)
		}
	}
	for _, kind := range []int{math.MinInt, -11, -1, 0, 12, 13, 64, math.MaxInt} {
		e := eventOf("look 0")
		e.Kind = kind
		isNone("no event", w, e, true)
		isNone("no event, of no door", w, impl.GateEvent{Kind: kind, Door: 9}, true)
		isNone("no event, in a world of nothing", impl.GateWorld{}, impl.GateEvent{Kind: kind}, true)
	}
	w.Doors[3].Slips = w.Doors[3].Slips[:5]
	for door := range w.Doors {
		for _, e := range sameForDoor(door) {
			want := !w.Doors[door].Up
			switch e.Kind {
			case impl.GateRises:
				want = w.Doors[door].Up
			case impl.GateCommits, impl.GateLoses:
				want = len(w.Doors[door].Slips) == 0
			}
			isNone("a door", w, e, want)
		}
	}
	for _, door := range []int{math.MinInt, -4, -1, 4, 5, math.MaxInt} {
		for _, e := range sameForDoor(door) {
			isNone("no such door", w, e, true)
		}
	}
	for _, e := range sameForDoor(0) {
		isNone("no doors", impl.GateWorld{Book: passBook()}, e, true)
	}
	one := impl.GateWorld{Book: passBook(), Doors: doorsOf(passBook(), "d")}
	for _, e := range sameForDoor(1) {
		isNone("behind the one door", one, e, true)
	}
	one.Doors[0].Up = false
	for _, e := range sameForDoor(0) {
		isNone("the one door is dead", one, e, e.Kind != impl.GateRises)
	}
}

// Code 13 of slips: At at its ends, and a door that has as many as it may.
func TestStepCannotSlips(t *testing.T) {
	w := stepWorld()
	for _, kind := range []int{impl.GateCommits, impl.GateLoses} {
		for door, d := range w.Doors {
			for _, at := range []int{math.MinInt, -1, 0, 1, 2, 3, 5, 6, math.MaxInt} {
				got, said := impl.GateStep(passLaw(), w, impl.GateEvent{Kind: kind, Door: door, At: at})
				if at >= 0 && at < len(d.Slips) {
					if said.Code == 13 || len(got.Doors[door].Slips) != len(d.Slips)-1 {
						t.Errorf("event %d of slip %d of door %d: %+v", kind, at, door, said)
					}
				} else if said != (impl.GateSaid{Code: 13}) || !same(got, w) {
					t.Errorf("event %d of slip %d of door %d: %+v", kind, at, door, said)
				}
			}
		}
	}
	w = impl.GateWorld{Book: passBook(), Doors: doorsOf(passBook(), "d1", "d2")}
	ask := eventOf("asks 0 ann end mark m1 0")
	for n := range 6 {
		var said impl.GateSaid
		if w, said = impl.GateStep(passLaw(), w, ask); said != (impl.GateSaid{}) || len(w.Doors[0].Slips) != n+1 {
			t.Fatalf("slip %d: %+v", n, said)
		}
	}
	// The seventh is refused, whatever it asks; the other door has room of its own.
	for _, text := range []string{"asks 0 ann end mark m1 0", "asks 0 zoe take 4", "asks 0 . take 0"} {
		if got, said := impl.GateStep(passLaw(), w, eventOf(text)); said != (impl.GateSaid{Code: 13}) || !same(got, w) {
			t.Errorf("%s: one too many: %+v", text, said)
		}
	}
	if got, said := impl.GateStep(passLaw(), w, eventOf("asks 1 ann end mark m1 0")); said != (impl.GateSaid{}) || len(got.Doors[1].Slips) != 1 {
		t.Errorf("at the other door: %+v", said)
	}
	w, _ = impl.GateStep(passLaw(), w, eventOf("loses 0 5"))
	if got, said := impl.GateStep(passLaw(), w, ask); said != (impl.GateSaid{}) || len(got.Doors[0].Slips) != 6 {
		t.Errorf("where one is lost there is room: %+v", said)
	}
}

// A dead door can do nothing but rise; ticks, sweeps and bounds go on without doors.
func TestStepWithoutDoors(t *testing.T) {
	dead := stepWorld()
	for i := range dead.Doors {
		dead.Doors[i].Up, dead.Doors[i].Slips = false, nil
	}
	for what, w := range map[string]impl.GateWorld{"all dead": dead, "no doors": {Book: stepWorld().Book}} {
		for _, text := range []string{"ticks", "sweeps", "binds dev need 77"} {
			for _, door := range []int{math.MinInt, -1, 0, 2, 4, math.MaxInt} {
				e := eventOf(text)
				e.Door = door
				got, said := impl.GateStep(passLaw(), w, e)
				want, wantSaid := impl.GateStep(passLaw(), stepWorld(), e)
				if said != (impl.GateSaid{}) || wantSaid != said || !same(got.Book, want.Book) || same(got.Book, w.Book) || !same(got.Doors, w.Doors) {
					t.Errorf("%s: %s at %d: %+v", what, text, door, said)
				}
			}
		}
	}
	for door := range dead.Doors {
		for _, e := range sameForDoor(door) {
			if _, said := impl.GateStep(passLaw(), dead, e); (said.Code == 0) != (e.Kind == impl.GateRises) {
				t.Errorf("all dead: event %d at %d: %+v", e.Kind, door, said)
			}
		}
	}
}

// stepped runs a row of events that are all done.
func stepped(t *testing.T, l impl.GateLaw, w impl.GateWorld, events ...string) impl.GateWorld {
	t.Helper()
	for _, text := range events {
		got, said := impl.GateStep(l, w, eventOf(text))
		if said.Code != 0 || !impl.GateWorldOk(l, got) {
			t.Fatalf("%s: %+v of %s", text, said, worldText(w))
		}
		w = got
	}
	return w
}

// slipNames is the names of what a door's slips ask for, in order.
func slipNames(d impl.GateDoor) string {
	var out []string
	for _, s := range d.Slips {
		out = append(out, s.Ask.Name)
	}
	return strings.Join(out, " ")
}

// Slips stand in the order in which they were asked, whichever go.
func TestStepOrderOfSlips(t *testing.T) {
	w := impl.GateWorld{Book: passBook(), Doors: doorsOf(passBook(), "d1", "d2")}
	for _, c := range []struct{ event, first, second string }{
		{"asks 0 ann make mark a ops .", "a", ""}, {"asks 0 ann make mark b ops .", "a b", ""}, {"asks 1 ann make mark x ops .", "a b", "x"}, {"asks 0 ann make mark c ops .", "a b c", "x"},
		{"loses 0 1", "a c", "x"}, {"asks 0 ann make mark b ops .", "a c b", "x"}, {"commits 0 0", "c b", "x"}, {"asks 0 ann make mark a ops .", "c b a", "x"},
		{"commits 0 1", "c a", "x"}, {"loses 0 1", "c", "x"}, {"asks 1 ann make mark c ops .", "c", "x c"}, {"commits 1 1", "c", "x"}, {"loses 0 0", "", "x"}, {"commits 1 0", "", ""},
	} {
		w = stepped(t, passLaw(), w, c.event)
		if first, second := slipNames(w.Doors[0]), slipNames(w.Doors[1]); first != c.first || second != c.second {
			t.Errorf("%s: the slips of %q and of %q", c.event, first, second)
		}
	}
}

// A door that dies keeps its View and its purses, and one that rose has its View as before and no slips.
func TestStepDiesAndRises(t *testing.T) {
	w := stepped(t, passLaw(), stepWorld(), "dies 0")
	want := stepWorld()
	want.Doors[0].Up, want.Doors[0].Slips = false, nil
	if !same(w, want) {
		t.Errorf("dead: %s", worldText(w))
	}
	w = stepped(t, passLaw(), w, "sweeps", "binds dev need 99", "rises 0")
	if d := w.Doors[0]; !d.Up || len(d.Slips) > 0 || !same(d.View, passBook()) {
		t.Errorf("risen: %s", worldText(w))
	}
	// Its late view lets pass what the Book, swept by now, does not have.
	w = stepped(t, passLaw(), w, "asks 0 ann change job j1 0 4,small,b1,j2,,v1")
	if _, said := impl.GateStep(passLaw(), w, eventOf("commits 0 0")); said != (impl.GateSaid{Code: 12, Place: 2}) {
		t.Errorf("what is gone: %+v", said)
	}
	w = stepped(t, passLaw(), w, "look 0", "loses 0 0")
	if _, said := impl.GateStep(passLaw(), w, eventOf("asks 0 ann change job j1 0 4,small,b1,j2,,v1")); said != (impl.GateSaid{Code: 9, Place: 3}) {
		t.Errorf("what is seen to be gone: %+v", said)
	}
}

// Promise 6 in a world: what a door drew comes back behind GatePurseLife + 1 ticks, though it is dead.
func TestStepDeadDoorsPurse(t *testing.T) {
	w := impl.GateWorld{Book: bookOf("now 1 tick 0 given 1\n grant 1 ann . 12345 . . ."), Doors: doorsOf(impl.GateBook{}, "d1", "d2")}
	w = stepped(t, passLaw(), w, "binds dev need 9", "draws 0 dev need 4", "ticks", "draws 0 dev need 2", "dies 0")
	for n := range 11 {
		if len(w.Book.Purses) != 1 || w.Book.Purses[0].Amount != 6 || w.Book.Ledgers[0].Free != 3 {
			t.Fatalf("behind %d ticks: %s", n, worldText(w))
		}
		w = stepped(t, passLaw(), w, "ticks")
	}
	if len(w.Book.Purses) != 0 || w.Book.Ledgers[0].Free != 9 {
		t.Errorf("behind 11 ticks: %s", worldText(w))
	}
	w = stepped(t, passLaw(), w, "draws 1 dev need 9", "backs 1 dev need", "rises 0", "draws 0 dev need 9")
	if w.Book.Purses[0] != (impl.GatePurse{Door: "d1", Team: "dev", Resource: "need", Amount: 9, Until: 22}) {
		t.Errorf("the other door, and then the risen one: %s", worldText(w))
	}
}

// Two doors that see the same ask for the same: the second one that comes is late.
func TestStepTwoDoors(t *testing.T) {
	w := impl.GateWorld{Book: passBook(), Doors: doorsOf(passBook(), "d1", "d2")}
	w = stepped(t, passLaw(), w, "asks 0 ann end mark m1 8", "asks 1 ann end mark m1 8", "asks 1 ann end job j1 5", "asks 0 ann take 4", "commits 1 0", "commits 1 0")
	for _, want := range []string{"12 1 0", "0 0 33"} {
		var said impl.GateSaid
		if w, said = impl.GateStep(passLaw(), w, eventOf("commits 0 0")); saidText(said) != want {
			t.Errorf("%s, not %s", saidText(said), want)
		}
	}
	// A slip that was asked with a right that is taken by now is late too.
	w = stepped(t, passLaw(), w, "look 0", "asks 0 ann give bob 2 job . .", "commits 0 0", "look 0", "look 1", "asks 1 bob change job j5 0 1,,,,j5,", "asks 0 ann take 34", "commits 0 0")
	if _, said := impl.GateStep(passLaw(), w, eventOf("commits 1 0")); said != (impl.GateSaid{Code: 12}) {
		t.Errorf("a right that is taken: %+v", said)
	}
}

func TestStepOddTexts(t *testing.T) {
	w := stepWorld()
	for i, text := range oddTexts() {
		for what, e := range map[string]impl.GateEvent{
			"a draw's Team": {Kind: impl.GateDraws, Team: text, Resource: "need", Amount: 1}, "a draw's Resource": {Kind: impl.GateDraws, Team: "dev", Resource: text, Amount: 1},
			"a giving back's Team": {Kind: impl.GateBacks, Team: text, Resource: "need"}, "a giving back's Resource": {Kind: impl.GateBacks, Team: "dev", Resource: text},
			"a bound's Team": {Kind: impl.GateBinds, Team: text, Resource: "need", Amount: 99}, "a bound's Resource": {Kind: impl.GateBinds, Team: "dev", Resource: text, Amount: 99},
			"Who": {Kind: impl.GateAsks, Ask: impl.GateAsk{Who: text, Verb: impl.GateTake, Number: 4}}, "Kind": {Kind: impl.GateAsks, Ask: impl.GateAsk{Who: "ann", Verb: impl.GateEnd, Kind: text, Name: "j1"}},
			"a value":    {Kind: impl.GateAsks, Ask: impl.GateAsk{Who: "ann", Verb: impl.GateMake, Kind: "berth", Name: "b9", Team: "dev", Values: []string{"8", text}}},
			"a hold":     {Kind: impl.GateAsks, Ask: impl.GateAsk{Who: "ann", Verb: impl.GateMake, Kind: "mark", Name: "m9", Team: "dev", Holds: []string{text}}},
			"a Prefix":   {Kind: impl.GateAsks, Ask: impl.GateAsk{Who: "ann", Verb: impl.GateGive, To: "zoe", Rule: impl.GateRule{Verbs: []int{1}, Prefix: text}}},
			"not used":   {Kind: impl.GateTicks, Team: text, Resource: text, Ask: impl.GateAsk{Who: text}},
			"not used 2": {Kind: impl.GateLook, Team: text, Resource: text, Ask: impl.GateAsk{Who: text, Values: []string{text}}},
		} {
			want, wantSaid := saidStep(passLaw(), w, e)
			got, said := impl.GateStep(passLaw(), w, e)
			if said != wantSaid || !same(got, want) {
				t.Errorf("odd text %d as %s: %+v, not %+v", i, what, said, wantSaid)
			}
			isName := nameForm.MatchString(text)
			switch {
			case strings.HasPrefix(what, "not used"), what == "a bound's Resource" && isName, what == "a hold" && isName, what == "a Prefix" && (isName || text == ""), what == "a value" && text == "":
				if said.Code != 0 {
					t.Errorf("odd text %d as %s: %+v", i, what, said)
				}
			case said.Code == 0 || !same(got, w):
				t.Errorf("odd text %d as %s: %+v", i, what, said)
			}
		}
	}
}

func TestWorldMemory(t *testing.T) {
	spoiled := stepWorld()
	spoiled.Book.Ledgers[0].Free++
	for _, c := range []struct {
		event string
		world impl.GateWorld
		said  string
	}{
		{"look 0", stepWorld(), "0 0 0"}, {"look 3", stepWorld(), "0 0 0"}, {"look 2", stepWorld(), "13 0 0"}, {"look 0", spoiled, "1 0 0"},
		{"asks 0 ann make job j4 lab 3,small,b1,j1,j5,v1 +a +b", stepWorld(), "0 0 0"}, {"asks 1 ann give zoe 123 job lab j", stepWorld(), "0 0 0"}, {"asks 1 ann end mark m2 0", stepWorld(), "0 0 0"},
		{"asks 0 ann end mark m2 0", stepWorld(), "3 0 0"}, {"asks 3 ann end mark m2 0", stepWorld(), "13 0 0"},
		{"commits 0 0", stepWorld(), "12 1 0"}, {"commits 0 1", stepWorld(), "0 0 32"}, {"commits 0 2", stepWorld(), "0 0 32"}, {"commits 3 1", stepWorld(), "4 0 0"}, {"commits 0 3", stepWorld(), "13 0 0"},
		{"loses 0 0", stepWorld(), "0 0 0"}, {"loses 0 2", stepWorld(), "0 0 0"}, {"loses 1 0", stepWorld(), "13 0 0"},
		{"draws 0 dev need 2", stepWorld(), "0 0 0"}, {"draws 3 dev need 2", stepWorld(), "0 0 0"}, {"draws 0 dev need 7", stepWorld(), "3 0 0"},
		{"backs 1 dev need", stepWorld(), "0 0 0"}, {"backs 3 dev need", stepWorld(), "2 0 0"},
		{"ticks", stepWorld(), "0 0 0"}, {"dies 0", stepWorld(), "0 0 0"}, {"rises 2", stepWorld(), "0 0 0"}, {"rises 0", stepWorld(), "13 0 0"},
		{"sweeps", stepWorld(), "0 0 0"}, {"sweeps", impl.GateWorld{Book: sampleBookOfPass(), Doors: doorsOf(impl.GateBook{}, "d")}, "2 0 0"}, {"binds dev need 99", stepWorld(), "0 0 0"}, {"binds ops mark 9", stepWorld(), "0 0 0"}, {"binds dev need 1", stepWorld(), "3 0 0"},
	} {
		l, w, e := withRoom(passLaw()), withRoom(c.world), withRoom(eventOf(c.event))
		ownMemory(t, c.event, []any{l, w, e}, func() any {
			got, said := impl.GateStep(l, w, e)
			if saidText(said) != c.said {
				t.Errorf("%s: %+v, not %s", c.event, said, c.said)
			}
			return got
		})
	}
	for what, w := range map[string]impl.GateWorld{"ok": stepWorld(), "not ok": spoiled, "nothing": {}} {
		l, first, w := withRoom(passLaw()), withRoom(passBook()), withRoom(w)
		args := []any{l, first, w}
		ownMemory(t, "GateWorldOk, "+what, args, func() any { return impl.GateWorldOk(l, w) })
		ownMemory(t, "GateSafe, "+what, args, func() any { return impl.GateSafe(l, first, w) })
		ownMemory(t, "no event, "+what, args, func() any {
			got, _ := impl.GateStep(l, w, impl.GateEvent{})
			return got
		})
	}
}

// sampleBookOfPass is a small book by passLaw in which there is nothing to sweep.
func sampleBookOfPass() impl.GateBook {
	b := bookOf(`
		now 9 tick 0 given 1
		object job j1 lab 5 4,small,,,, +h +k
		object mark m1 ops 8 .
		grant 1 ann . 12345 . . .
	`)
	return b
}

// What is done to a world or an event behind a step turns nothing of its answer, and the other way round; nor does a door's view turn with the book that it saw.
func TestStepStandsAlone(t *testing.T) {
	w, e := stepWorld(), eventOf("asks 0 ann make job j4 lab 3,small,b1,j1,j5,v1 +a +b")
	got, _ := impl.GateStep(passLaw(), w, e)
	was, wasWorld := plainText(got), plainText(w)
	e.Ask.Values[0], e.Ask.Holds[0] = "9", "z"
	w.Doors[0].Slips[0].Ask.Holds[0], w.Doors[0].Slips[1].Wants[0].Version = "z", 99
	w.Doors[3].View.Now, w.Book.Objects[0].Values[0], w.Doors[0].View.Grants[0].Rule.Verbs[0] = 9, "x", 5
	if plainText(got) != was {
		t.Errorf("the world turned with what it came from: %s", worldText(got))
	}
	w = stepWorld()
	looked := stepped(t, passLaw(), w, "look 0")
	looked.Book.Objects[0].Values[0], looked.Book.Grants[0].Rule.Verbs[0], looked.Book.Objects[2].Holds[0], looked.Book.Ledgers[0].Free, looked.Book.Purses[0].Amount = "9", 2, "z", 77, 77
	if !same(looked.Doors[0].View, stepWorld().Book) || plainText(w) != wasWorld {
		t.Errorf("the view turned with the book: %s", worldText(looked))
	}
	for range 3 {
		again, said := impl.GateStep(passLaw(), w, eventOf("commits 0 1"))
		if want := fmt.Sprint(impl.GateSaid{Version: 32}); fmt.Sprint(said) != want || len(again.Doors[0].Slips) != 2 {
			t.Errorf("the same step once more: %+v", said)
		}
	}
}
