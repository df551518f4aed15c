package tests

import (
	"fmt"
	"slices"
	"strings"
	"testing"

	"loop.example/wharfgate/impl"
)

func TestPassMake(t *testing.T) {
	tryPasses(t, passLaw(), passBook(), []passCase{
		// With all that it uses; the purse of jobs is just spent.
		{"d1 ann make job j4 lab 3,small,b1,j1,j5,v1 +a +b", "0 0 31", "- purse d1 dev job 1 9; - purse d1 dev need 6 7; - purse d1 lab need 4 17; " +
			"+ object job j4 lab 31 3,small,b1,j1,j5,v1 +a +b; + purse d1 dev need 3 7; + purse d1 lab need 1 17"},
		// Where no ledger bounds it nothing is spent, and no purse is needed.
		{"d3 ann make job j9 ops 32,small,,,,", "0 0 31", "+ object job j9 ops 31 32,small,,,,"},
		{"d3 ann make berth b0 lab 64,b", "0 0 31", "+ object berth b0 lab 31 64,b"},
		{"d3 ann make vol z dev 1000000,,", "0 0 31", "+ object vol z dev 31 1000000,,"},
		{"d3 ann make mark m0 lab . +h", "0 0 31", "+ object mark m0 lab 31 . +h"},
		{"d3 ann make mark m2 pit .", "0 0 31", "+ object mark m2 pit 31 ."},
		// Filled and mended.
		{"d1 ann make job j9 dev ,,,,,", "0 0 31", "- purse d1 dev job 1 9; - purse d1 dev need 6 7; + object job j9 dev 31 1,,,,,; + purse d1 dev need 5 7"},
		{"d2 ann make job j9 dev 2,big,,,,", "0 0 31", "- purse d2 dev job 9 9; - purse d2 dev need 30 7; + object job j9 dev 31 8,big,,,,; + purse d2 dev job 8 9; + purse d2 dev need 22 7"},
		{"d2 ann make berth a ops 5,", "0 0 31", "- purse d2 ops room 40 8; + object berth a ops 31 5,a; + purse d2 ops room 35 8"},
		{"d3 ann make vol v3 dev ,fast,x", "0 0 31", "+ object vol v3 dev 31 ,fast,fast"},
		{"d3 ann make vol v3 dev ,slowly,x", "7 2 0", ""},
		// Three holds.
		{"d3 ann make mark m2 pit . +a +b +c", "0 0 31", "+ object mark m2 pit 31 . +a +b +c"},
		{"d3 ann make mark m2 pit . +a +b +c +d", "2 0 0", ""},
		{"d3 ann make mark m2 pit . +b +a", "2 0 0", ""},
		// One of the name, but of another kind.
		{"d3 ann make mark j1 ops .", "0 0 31", "+ object mark j1 ops 31 ."},
		{"d3 ann make job v1 ops ,,,,,", "0 0 31", "+ object job v1 ops 31 1,,,,,"},
		// There is such an object.
		{"d2 ann make job j1 lab 4,small,b1,,,v1 +h +k", "3 0 0", ""},
		{"d2 ann make job j3 dev ,,,,,", "3 0 0", ""},
		{"d3 ann make mark m1 ops .", "3 0 0", ""},
		// They may not: another verb, kind, team or name.
		{"d1 bob make job j4 lab 1,,,,,", "0 0 31", "- purse d1 dev job 1 9; - purse d1 dev need 6 7; - purse d1 lab need 4 17; + object job j4 lab 31 1,,,,,; + purse d1 dev need 5 7; + purse d1 lab need 3 17"},
		{"d2 bob make job j4 pit 0,,,,,", "0 0 31", "- purse d2 dev job 9 9; + object job j4 pit 31 0,,,,,; + purse d2 dev job 8 9"},
		{"d1 bob make job k4 lab 1,,,,,", "4 0 0", ""},
		{"d1 bob make job j4 dev 1,,,,,", "4 0 0", ""},
		{"d1 bob make job j4 ops 1,,,,,", "4 0 0", ""},
		{"d1 bob make vol j4 lab ,,", "4 0 0", ""},
		{"d2 cy make job jj lab 0,,,,,", "0 0 31", "- purse d2 dev job 9 9; + object job jj lab 31 0,,,,,; + purse d2 dev job 8 9"},
		{"d2 cy make job j4 lab 0,,,,,", "4 0 0", ""},
		{"d2 dan make berth b3 ops 1,", "0 0 31", "- purse d2 ops room 40 8; + object berth b3 ops 31 1,a; + purse d2 ops room 39 8"},
		{"d2 dan make job j4 lab 1,,,,,", "4 0 0", ""},
		{"d2 eve make job j4 pit 1,,,,,", "4 0 0", ""},
		{"d1 zoe make job j4 lab 1,,,,,", "4 0 0", ""},
		{"d1 d1 make job j4 lab 1,,,,,", "4 0 0", ""},
	})
}

func TestPassMakeFaults(t *testing.T) {
	tryPasses(t, passLaw(), passBook(), []passCase{
		// A field that must be set, and one that is beyond its least and its most.
		{"d3 ann make berth b3 dev ,a", "7 0 0", ""},
		{"d3 ann make berth b3 dev 0,a", "7 0 0", ""},
		{"d3 ann make berth b3 dev 1,a", "0 0 31", "+ object berth b3 dev 31 1,a"},
		{"d3 ann make berth b3 dev 64,a", "0 0 31", "+ object berth b3 dev 31 64,a"},
		{"d3 ann make berth b3 dev 65,a", "7 0 0", ""},
		{"d3 ann make berth b3 dev 8,c", "7 1 0", ""},
		{"d3 ann make berth b3 dev x,c", "7 0 0", ""},
		{"d3 ann make job j4 ops 33,,,,,", "7 0 0", ""},
		{"d3 ann make job j4 ops ,tiny,,,,", "7 1 0", ""},
		{"d3 ann make job j4 ops ,,B1,,,", "7 2 0", ""},
		{"d3 ann make job j4 ops ,,b1,J,K,", "7 3 0", ""},
		{"d3 ann make job j4 ops ,,b1,j1,K,L", "7 4 0", ""},
		{"d3 ann make job j4 ops ,,b1,j1,j5,v12345678901234567", "7 5 0", ""},
		{"d3 ann make vol v3 ops ,,notes", "7 2 0", ""},
		{"d3 ann make vol v3 ops ,,note", "0 0 31", "+ object vol v3 ops 31 ,,note"},
		{"d3 ann make vol v3 ops 1000001,,", "7 0 0", ""},
		// A value that does not fit, but is mended.
		{"d3 ann make job j4 ops 99,big,,,,", "0 0 31", "+ object job j4 ops 31 8,big,,,,"},
		// A link to nothing, to another kind, to what is Ending, to itself.
		{"d3 ann make job j4 ops ,,b3,,,", "9 2 0", ""},
		{"d3 ann make job j4 ops ,,j1,,,", "9 2 0", ""},
		{"d3 ann make job j4 ops ,,b2,,,", "9 2 0", ""},
		{"d3 ann make job j4 ops ,,b1,j3,,", "9 3 0", ""},
		{"d3 ann make job j4 ops ,,b1,j4,,", "9 3 0", ""},
		{"d3 ann make job j4 ops ,,b1,,j4,", "9 4 0", ""},
		{"d3 ann make job j4 ops ,,,,j3,v9", "9 4 0", ""},
		{"d3 ann make job j4 ops ,,,,,v9", "9 5 0", ""},
		{"d3 ann make job j4 ops ,,,j1,j1,v2", "0 0 31", "+ object job j4 ops 31 1,,,j1,j1,v2"},
	})
}

func TestPassMakePurses(t *testing.T) {
	tryPasses(t, passLaw(), passBook(), []passCase{
		// Just spent, and one too few: of its own team's ledger, and of one over it.
		{"d1 ann make job j9 lab 4,,,,,", "0 0 31", "- purse d1 dev job 1 9; - purse d1 dev need 6 7; - purse d1 lab need 4 17; + object job j9 lab 31 4,,,,,; + purse d1 dev need 2 7"},
		{"d1 ann make job j9 lab 5,,,,,", "10 2 0", ""},
		{"d1 ann make job j9 lab 6,,,,,", "10 2 0", ""},
		{"d1 ann make job j9 lab 7,,,,,", "10 1 0", ""},
		{"d1 ann make job j9 pit 4,,,,,", "0 0 31", "- purse d1 dev job 1 9; - purse d1 dev need 6 7; - purse d1 lab need 4 17; + object job j9 pit 31 4,,,,,; + purse d1 dev need 2 7"},
		{"d1 ann make job j9 pit 5,,,,,", "10 2 0", ""},
		{"d1 ann make job j9 dev 6,,,,,", "0 0 31", "- purse d1 dev job 1 9; - purse d1 dev need 6 7; + object job j9 dev 31 6,,,,,"},
		{"d1 ann make job j9 dev 7,,,,,", "10 1 0", ""},
		{"d1 ann make job j9 dev 0,,,,,", "0 0 31", "- purse d1 dev job 1 9; + object job j9 dev 31 0,,,,,"},
		{"d1 ann make job j9 dev ,big,,,,", "10 1 0", ""},
		// The kind itself is a resource, and a field weighs it too.
		{"d1 ann make vol v3 pit 9,,", "0 0 31", "- purse d1 pit vol 10 9; + object vol v3 pit 31 9,,"},
		{"d1 ann make vol v3 pit 10,,", "10 4 0", ""},
		{"d1 ann make vol v3 pit ,,", "0 0 31", "- purse d1 pit vol 10 9; + object vol v3 pit 31 ,,; + purse d1 pit vol 9 9"},
		{"d2 ann make vol v3 pit 1000000,,", "10 4 0", ""},
		// No purse, though others have one, and though there is enough that is free.
		{"d3 ann make job j9 dev 0,,,,,", "10 0 0", ""},
		{"d3 ann make vol v3 pit ,,", "10 4 0", ""},
		{"d1 ann make berth b3 ops 1,", "10 3 0", ""},
		{"d ann make vol v3 pit ,,", "10 4 0", ""},
		{"d11 ann make vol v3 pit ,,", "10 4 0", ""},
		{"d2 ann make berth b3 ops 40,", "0 0 31", "- purse d2 ops room 40 8; + object berth b3 ops 31 40,a"},
		{"d2 ann make berth b3 ops 41,", "10 3 0", ""},
	})
	none := passBook()
	none.Purses = nil
	balance(passLaw(), &none)
	tryPasses(t, passLaw(), none, []passCase{
		{"d1 ann make job j9 dev 0,,,,,", "10 0 0", ""},
		{"d1 ann make vol v3 pit ,,", "10 4 0", ""},
		{"d1 ann make vol v3 lab ,,", "0 0 31", "+ object vol v3 lab 31 ,,"},
	})
	// Of what is one too few in several ledgers the first is told.
	few := passBook()
	few.Purses = slices.DeleteFunc(few.Purses, func(p impl.GatePurse) bool { return p.Door == "d1" && p.Resource == "job" })
	balance(passLaw(), &few)
	tryPasses(t, passLaw(), few, []passCase{
		{"d1 ann make job j9 lab 9,,,,,", "10 0 0", ""},
		{"d1 ann make job j9 ops 9,,,,,", "0 0 31", "+ object job j9 ops 31 9,,,,,"},
	})
}

func TestPassChange(t *testing.T) {
	const j1, j5 = "- object job j1 lab 5 4,small,b1,,,v1 +h +k; ", "- object job j5 dev 7 2,,,,j5,; "
	tryPasses(t, passLaw(), passBook(), []passCase{
		// To what it is: asked whole, or filled and mended to it.
		{"d3 ann change job j1 5 4,small,b1,,,v1", "0 0 31", j1 + "+ object job j1 lab 31 4,small,b1,,,v1 +h +k"},
		{"d3 ann change job j2 0 8,big,b2,j1,j3,", "0 0 31", "- object job j2 pit 20 8,big,b2,j1,j3,; + object job j2 pit 31 8,big,b2,j1,j3,"},
		{"d3 ann change job j2 0 ,big,b2,j1,j3,", "0 0 31", "- object job j2 pit 20 8,big,b2,j1,j3,; + object job j2 pit 31 8,big,b2,j1,j3,"},
		{"d3 ann change berth b1 3 8,", "0 0 31", "- object berth b1 dev 3 8,a; + object berth b1 dev 31 8,a"},
		{"d3 ann change mark m1 0 .", "0 0 31", "- object mark m1 ops 8 .; + object mark m1 ops 31 ."},
		{"d3 ann change vol v2 0 ,fast,", "0 0 31", "- object vol v2 ops 2 ,fast,fast; + object vol v2 ops 31 ,fast,fast"},
		// Heavier: just as much as the purses have, and one more.
		{"d1 ann change job j1 0 8,small,b1,,,v1", "0 0 31", j1 + "- purse d1 dev need 6 7; - purse d1 lab need 4 17; + object job j1 lab 31 8,small,b1,,,v1 +h +k; + purse d1 dev need 2 7"},
		{"d1 ann change job j1 0 9,small,b1,,,v1", "10 2 0", ""},
		{"d1 ann change job j5 0 8,,,,j5,", "0 0 31", j5 + "- purse d1 dev need 6 7; + object job j5 dev 31 8,,,,j5,"},
		{"d1 ann change job j5 0 9,,,,j5,", "10 1 0", ""},
		{"d1 ann change job j5 0 ,big,,,j5,", "0 0 31", j5 + "- purse d1 dev need 6 7; + object job j5 dev 31 8,big,,,j5,"},
		{"d3 ann change job j5 0 3,,,,j5,", "10 1 0", ""},
		{"d2 ann change job j2 0 9,big,b2,j1,j3,", "0 0 31", "- object job j2 pit 20 8,big,b2,j1,j3,; + object job j2 pit 31 8,big,b2,j1,j3,"},
		{"d1 ann change vol v1 0 14,,", "0 0 31", "- object vol v1 pit 1 4,,; - purse d1 pit vol 10 9; + object vol v1 pit 31 14,,"},
		{"d1 ann change vol v1 0 15,,", "10 4 0", ""},
		// Lighter: it is free, in the ledger of its team and in those over it; no purse has it, and none is needed.
		{"d3 ann change job j1 0 1,small,b1,,,v1", "0 0 31", j1 + "- ledger dev need 6 61; - ledger lab need 9 60; + object job j1 lab 31 1,small,b1,,,v1 +h +k; + ledger dev need 9 61; + ledger lab need 12 60"},
		{"d1 ann change job j5 0 0,,,,j5,", "0 0 31", j5 + "- ledger dev need 6 61; + object job j5 dev 31 0,,,,j5,; + ledger dev need 8 61"},
		{"d1 ann change vol v1 0 ,,", "0 0 31", "- object vol v1 pit 1 4,,; - ledger pit vol 2 117; + object vol v1 pit 31 ,,; + ledger pit vol 6 117"},
		// Where no ledger bounds it.
		{"d3 ann change vol v2 0 1000000,fast,", "0 0 31", "- object vol v2 ops 2 ,fast,fast; + object vol v2 ops 31 1000000,fast,fast"},
		{"d3 ann change berth b1 0 64,b", "0 0 31", "- object berth b1 dev 3 8,a; + object berth b1 dev 31 64,b"},
		// There is none.
		{"d3 ann change job j4 0 ,,,,,", "3 0 0", ""},
		{"d3 ann change vol j1 0 ,,", "3 0 0", ""},
		{"d3 ann change mark j1 0 .", "3 0 0", ""},
		// They may not, by the team that the object has.
		{"d3 bob change job j1 0 4,small,b1,,,v1", "0 0 31", j1 + "+ object job j1 lab 31 4,small,b1,,,v1 +h +k"},
		{"d3 bob change job j2 0 8,big,b2,j1,j3,", "0 0 31", "- object job j2 pit 20 8,big,b2,j1,j3,; + object job j2 pit 31 8,big,b2,j1,j3,"},
		{"d3 bob change job j5 0 2,,,,j5,", "4 0 0", ""},
		{"d3 dan change job j1 0 4,small,b1,,,v1", "4 0 0", ""},
		{"d3 dan change vol v2 0 ,,", "0 0 31", "- object vol v2 ops 2 ,fast,fast; + object vol v2 ops 31 ,,"},
		{"d3 dan change vol v1 0 4,,", "4 0 0", ""},
		{"d3 zoe change job j1 0 4,small,b1,,,v1", "4 0 0", ""},
		// Seen.
		{"d3 ann change job j1 4 4,small,b1,,,v1", "5 0 5", ""},
		{"d3 ann change job j1 6 4,small,b1,,,v1", "5 0 5", ""},
		{"d3 ann change job j1 30 4,small,b1,,,v1", "5 0 5", ""},
		{"d3 ann change job j1 9999999 4,small,b1,,,v1", "5 0 5", ""},
		{"d3 ann change job j2 5 8,big,b2,j1,j3,", "5 0 20", ""},
		{"d3 ann change job j1 -1 4,small,b1,,,v1", "2 0 0", ""},
		// It is Ending.
		{"d3 ann change job j3 0 5,,,,,", "6 0 0", ""},
		{"d3 ann change job j3 6 5,,,,,", "6 0 0", ""},
		{"d3 ann change berth b2 0 9,b", "6 0 0", ""},
	})
}

func TestPassChangeFaults(t *testing.T) {
	const j5 = "- object job j5 dev 7 2,,,,j5,; "
	tryPasses(t, passLaw(), passBook(), []passCase{
		{"d3 ann change job j1 0 33,small,b1,,,v1", "7 0 0", ""},
		{"d3 ann change job j1 0 4,tiny,b1,,,v1", "7 1 0", ""},
		{"d3 ann change job j1 0 4,small,B,,,v1", "7 2 0", ""},
		{"d3 ann change berth b1 0 ,a", "7 0 0", ""},
		{"d3 ann change vol v2 0 ,slowly,fast", "7 2 0", ""},
		{"d3 ann change vol v2 0 ,,slowly", "7 2 0", ""},
		{"d3 ann change vol v2 0 ,,slow", "0 0 31", "- object vol v2 ops 2 ,fast,fast; + object vol v2 ops 31 ,,slow"},
		// A field that is Fixed: another value, none, and one where there was none.
		{"d2 ann change job j1 0 4,big,b1,,,v1", "8 1 0", ""},
		{"d2 ann change job j1 0 4,,b1,,,v1", "8 1 0", ""},
		{"d2 ann change job j1 0 4,small,b1,,,v2", "8 5 0", ""},
		{"d2 ann change job j1 0 4,small,b1,,,", "8 5 0", ""},
		{"d2 ann change job j1 0 4,big,b1,,,v2", "8 1 0", ""},
		{"d2 ann change job j5 0 2,small,,,j5,v1", "0 0 31", j5 + "+ object job j5 dev 31 2,small,,,j5,v1"},
		// Links: to nothing, to another kind, to what is Ending, to itself, emptied.
		{"d3 ann change job j5 0 2,,b3,,j5,", "9 2 0", ""},
		{"d3 ann change job j5 0 2,,j1,,j5,", "9 2 0", ""},
		{"d3 ann change job j5 0 2,,b2,,j5,", "9 2 0", ""},
		{"d3 ann change job j5 0 2,,b1,j3,j5,", "9 3 0", ""},
		{"d3 ann change job j5 0 2,,b1,j9,j3,", "9 3 0", ""},
		{"d3 ann change job j5 0 2,,b1,j1,j3,", "9 4 0", ""},
		{"d3 ann change job j5 0 2,,b1,j1,j2,v3", "9 5 0", ""},
		{"d3 ann change job j5 0 2,,b1,j1,j2,v2", "0 0 31", j5 + "+ object job j5 dev 31 2,,b1,j1,j2,v2"},
		{"d3 ann change job j5 0 2,,,j5,j5,", "0 0 31", j5 + "+ object job j5 dev 31 2,,,j5,j5,"},
		{"d3 ann change job j5 0 2,,,,,", "0 0 31", j5 + "+ object job j5 dev 31 2,,,,,"},
		// A link that stays is not looked at, though it names what is Ending; in another field it is new.
		{"d3 ann change job j2 0 8,big,b2,,j3,", "0 0 31", "- object job j2 pit 20 8,big,b2,j1,j3,; + object job j2 pit 31 8,big,b2,,j3,"},
		{"d3 ann change job j2 0 8,big,b1,j1,j3,", "0 0 31", "- object job j2 pit 20 8,big,b2,j1,j3,; + object job j2 pit 31 8,big,b1,j1,j3,"},
		{"d3 ann change job j2 0 8,big,b2,j3,j3,", "9 3 0", ""},
		{"d3 ann change job j2 0 8,big,b2,j3,,", "9 3 0", ""},
		{"d3 ann change job j2 0 8,big,b2,j1,j1,", "0 0 31", "- object job j2 pit 20 8,big,b2,j1,j3,; + object job j2 pit 31 8,big,b2,j1,j1,"},
	})
	// Once a link is another one, what it named before is new again.
	b, _ := impl.GatePass(passLaw(), passBook(), "d3", askOf("ann change job j2 0 8,big,b1,j1,j3,"))
	tryPasses(t, passLaw(), b, []passCase{{"d3 ann change job j2 31 8,big,b2,j1,j3,", "9 2 0", ""}})
}

// An object may weigh more of one resource and less of another.
func TestPassSeveralWeights(t *testing.T) {
	number := func(name, weighs string) impl.GateField {
		return impl.GateField{Name: name, Kind: impl.GateNumber, Most: 50, Weighs: weighs}
	}
	l := impl.GateLaw{
		Shapes: []impl.GateShape{{Kind: "box", Fields: []impl.GateField{number("p", "x"), number("q", "y"), number("r", "x"), number("s", "box"), number("u", "")}}},
		Teams:  teamsOf("dev lab<dev"),
	}
	b := bookOf(`
		now 9 tick 0 given 1
		object box o lab 2 5,6,7,8,9
		grant 1 ann . 12345 . . .
		ledger dev box 1 0
		ledger dev x 2 0
		ledger dev y 3 0
		ledger lab x 4 0
		ledger lab y 5 0
		purse d dev box 10 1
		purse d dev x 20 2
		purse d dev y 3 3
		purse d lab x 21 4
		purse d lab y 5 5
	`)
	balance(l, &b)
	const was = "- object box o lab 2 5,6,7,8,9; "
	tryPasses(t, l, b, []passCase{
		{"d ann change box o 0 10,2,7,8,9", "0 0 10", was + "- ledger dev y 3 12; - ledger lab y 5 16; - purse d dev x 20 2; - purse d lab x 21 4; " +
			"+ object box o lab 10 10,2,7,8,9; + ledger dev y 7 12; + ledger lab y 9 16; + purse d dev x 15 2; + purse d lab x 16 4"},
		// What two fields weigh of one resource counts together.
		{"d ann change box o 0 7,6,5,8,9", "0 0 10", was + "+ object box o lab 10 7,6,5,8,9"},
		{"d ann change box o 0 12,6,,8,9", "0 0 10", was + "+ object box o lab 10 12,6,,8,9"},
		{"d ann change box o 0 32,6,,8,9", "0 0 10", was + "- purse d dev x 20 2; - purse d lab x 21 4; + object box o lab 10 32,6,,8,9; + purse d lab x 1 4"},
		{"d ann change box o 0 33,6,,8,9", "10 1 0", ""},
		// What weighs nothing costs nothing.
		{"d ann change box o 0 5,6,7,8,50", "0 0 10", was + "+ object box o lab 10 5,6,7,8,50"},
		{"e ann change box o 0 5,6,7,8,50", "0 0 10", was + "+ object box o lab 10 5,6,7,8,50"},
		{"e ann change box o 0 5,6,7,9,50", "10 0 0", ""},
		{"d ann change box o 0 5,10,7,18,9", "10 2 0", ""},
		{"d ann change box o 0 5,9,7,18,9", "0 0 10", was + "- purse d dev box 10 1; - purse d dev y 3 3; - purse d lab y 5 5; + object box o lab 10 5,9,7,18,9; + purse d lab y 2 5"},
		{"d ann change box o 0 5,9,7,19,9", "10 0 0", ""},
		{"d ann change box o 0 ,,,,", "0 0 10", was + "- ledger dev box 1 20; - ledger dev x 2 34; - ledger dev y 3 12; - ledger lab x 4 37; - ledger lab y 5 16; + object box o lab 10 ,,,,; " +
			"+ ledger dev box 9 20; + ledger dev x 14 34; + ledger dev y 9 12; + ledger lab x 16 37; + ledger lab y 11 16"},
		{"d ann make box n dev 20,3,,9,", "0 0 10", "- purse d dev box 10 1; - purse d dev x 20 2; - purse d dev y 3 3; + object box n dev 10 20,3,,9,"},
		{"d ann make box n dev 20,3,,10,", "10 0 0", ""},
		{"d ann make box n dev 20,3,1,9,", "10 1 0", ""},
		{"d ann make box n dev 20,4,,9,", "10 2 0", ""},
		{"d ann make box n lab 20,3,1,9,", "10 1 0", ""},
	})
}

func TestPassEnd(t *testing.T) {
	const j1 = "- object job j1 lab 5 4,small,b1,,,v1 +h +k; + object job j1 lab 31 4,small,b1,,,v1 +h +k ending"
	tryPasses(t, passLaw(), passBook(), []passCase{
		{"d3 ann end job j1 0", "0 0 31", j1},
		{"d3 ann end job j1 5", "0 0 31", j1},
		{"d3 bob end job j1 0", "0 0 31", j1},
		{"d3 dan end job j1 0", "0 0 31", j1},
		{"d3 ann end berth b1 0", "0 0 31", "- object berth b1 dev 3 8,a; + object berth b1 dev 31 8,a ending"},
		{"d3 ann end mark m1 8", "0 0 31", "- object mark m1 ops 8 .; + object mark m1 ops 31 . ending"},
		{"d3 eve end job j2 20", "0 0 31", "- object job j2 pit 20 8,big,b2,j1,j3,; + object job j2 pit 31 8,big,b2,j1,j3, ending"},
		{"d3 ann end job j4 0", "3 0 0", ""},
		{"d3 ann end berth j1 0", "3 0 0", ""},
		{"d3 eve end job j1 0", "4 0 0", ""},
		{"d3 dan end job j5 0", "4 0 0", ""},
		{"d3 dan end mark m1 0", "4 0 0", ""},
		{"d3 cy end job j1 0", "4 0 0", ""},
		{"d3 zoe end job j1 0", "4 0 0", ""},
		{"d3 ann end job j1 4", "5 0 5", ""},
		{"d3 ann end job j1 6", "5 0 5", ""},
		{"d3 ann end job j1 -5", "2 0 0", ""},
		{"d3 ann end job j3 0", "6 0 0", ""},
		{"d3 ann end job j3 6", "6 0 0", ""},
	})
}

func TestPassLetGo(t *testing.T) {
	const j1 = "- object job j1 lab 5 4,small,b1,,,v1 +h +k; "
	tryPasses(t, passLaw(), passBook(), []passCase{
		{"d3 ann letgo job j1 h", "0 0 31", j1 + "+ object job j1 lab 31 4,small,b1,,,v1 +k"},
		{"d3 ann letgo job j1 k", "0 0 31", j1 + "+ object job j1 lab 31 4,small,b1,,,v1 +h"},
		{"d3 bob letgo job j1 h", "0 0 31", j1 + "+ object job j1 lab 31 4,small,b1,,,v1 +k"},
		{"d3 dan letgo job j1 h", "0 0 31", j1 + "+ object job j1 lab 31 4,small,b1,,,v1 +k"},
		{"d3 ann letgo job j4 h", "3 0 0", ""},
		{"d3 ann letgo berth j1 h", "3 0 0", ""},
		{"d3 cy letgo job j1 h", "4 0 0", ""},
		{"d3 eve letgo job j2 h", "4 0 0", ""},
		{"d3 zoe letgo job j1 h", "4 0 0", ""},
		{"d3 ann letgo job j1 x", "11 0 0", ""},
		{"d3 ann letgo job j1 hh", "11 0 0", ""},
		{"d3 ann letgo job j5 h", "11 0 0", ""},
		{"d3 ann letgo job j1 H", "2 0 0", ""},
	})
	// What is Ending may let go too, and the last hold.
	b := passBook()
	b.Objects[2].Ending, b.Objects[4].Holds = true, []string{"h"}
	tryPasses(t, passLaw(), b, []passCase{
		{"d3 ann letgo job j1 k", "0 0 31", "- object job j1 lab 5 4,small,b1,,,v1 +h +k ending; + object job j1 lab 31 4,small,b1,,,v1 +h ending"},
		{"d3 ann letgo job j3 h", "0 0 31", "- object job j3 lab 6 5,,,,, +h ending; + object job j3 lab 31 5,,,,, ending"},
		{"d3 ann letgo job j3 k", "11 0 0", ""},
	})
}

func TestPassGive(t *testing.T) {
	tryPasses(t, passLaw(), passBook(), []passCase{
		{"d3 ann give zoe 12345 . . .", "0 0 31", "+ grant 31 zoe ann 12345 . . ."},
		{"d3 ann give zoe 1 ship nowhere x", "0 0 31", "+ grant 31 zoe ann 1 ship nowhere x"},
		{"d3 ann give ann 5 . . .", "0 0 31", "+ grant 31 ann ann 5 . . ."},
		// By one who covers it with GateGive, by two grants together.
		{"d3 bob give zoe 1 job lab j", "0 0 31", "+ grant 31 zoe bob 1 job lab j"},
		{"d3 bob give zoe 12345 job lab j", "0 0 31", "+ grant 31 zoe bob 12345 job lab j"},
		{"d3 bob give zoe 15 job pit jx", "0 0 31", "+ grant 31 zoe bob 15 job pit jx"},
		{"d3 bob give zoe 5 job . j", "0 0 31", "+ grant 31 zoe bob 5 job . j"},
		{"d3 dan give zoe 34 job pit .", "0 0 31", "+ grant 31 zoe dan 34 job pit ."},
		{"d3 dan give bob 3 job lab q", "0 0 31", "+ grant 31 bob dan 3 job lab q"},
		// By one who covers it only without.
		{"d3 cy give zoe 1 job lab jj", "4 0 0", ""},
		{"d3 dan give zoe 1 berth ops b", "4 0 0", ""},
		{"d3 eve give zoe 3 job pit j", "4 0 0", ""},
		// By one who does not cover it: a wider team, kind or name, or another verb.
		{"d3 bob give zoe 1 job . j", "4 0 0", ""},
		{"d3 bob give zoe 1 job dev j", "4 0 0", ""},
		{"d3 bob give zoe 5 . . j", "4 0 0", ""},
		{"d3 bob give zoe 1 . lab j", "4 0 0", ""},
		{"d3 bob give zoe 1 job lab .", "4 0 0", ""},
		{"d3 dan give zoe 2 job lab .", "4 0 0", ""},
		{"d3 dan give zoe 13 job lab .", "4 0 0", ""},
		{"d3 zoe give zoe 1 job lab j", "4 0 0", ""},
		// Not ok.
		{"d3 ann give Zoe 1 . . .", "2 0 0", ""},
		{"d3 ann give zoe 6 . . .", "2 0 0", ""},
	})
	// What was given may be given on.
	b, _ := impl.GatePass(passLaw(), passBook(), "d3", askOf("bob give zoe 15 job pit j"))
	tryPasses(t, passLaw(), b, []passCase{
		{"d3 zoe give yan 1 job pit j2", "0 0 32", "+ grant 32 yan zoe 1 job pit j2"},
		{"d3 zoe give yan 1 job lab j2", "4 0 0", ""},
		{"d3 zoe give yan 2 job pit j2", "4 0 0", ""},
	})
}

func TestPassTake(t *testing.T) {
	tryPasses(t, passLaw(), passBook(), []passCase{
		// By one who covers it with GateGive.
		{"d3 ann take 16", "0 0 31", "- grant 16 eve dan 3 job pit j"},
		{"d3 ann take 1", "0 0 31", "- grant 1 ann . 12345 . . ."},
		{"d3 bob take 16", "0 0 31", "- grant 16 eve dan 3 job pit j"},
		{"d3 bob take 6", "0 0 31", "- grant 6 bob . 5 job . j"},
		{"d3 bob take 4", "0 0 31", "- grant 4 bob ann 1234 job lab j"},
		{"d3 dan take 12", "0 0 31", "- grant 12 dan ann 345 job lab ."},
		// By the one who gave it, who covers it or not.
		{"d3 dan take 16", "0 0 31", "- grant 16 eve dan 3 job pit j"},
		{"d3 bob take 9", "0 0 31", "- grant 9 cy bob 14 job lab jj"},
		// By one who covers it only without, and by one who does not.
		{"d3 dan take 13", "4 0 0", ""},
		{"d3 eve take 16", "4 0 0", ""},
		{"d3 cy take 9", "4 0 0", ""},
		{"d3 bob take 12", "4 0 0", ""},
		{"d3 dan take 6", "4 0 0", ""},
		{"d3 dan take 1", "4 0 0", ""},
		{"d3 zoe take 16", "4 0 0", ""},
		// There is none.
		{"d3 ann take 2", "3 0 0", ""},
		{"d3 ann take 17", "3 0 0", ""},
		{"d3 ann take 31", "3 0 0", ""},
		{"d3 ann take 1000001", "3 0 0", ""},
		{"d3 zoe take 5", "3 0 0", ""},
		{"d3 ann take 0", "2 0 0", ""},
		{"d3 ann take -4", "2 0 0", ""},
	})
	// Who has nothing any more may take what they gave, and nothing else.
	b := passBook()
	b.Grants = b.Grants[1:]
	tryPasses(t, passLaw(), b, []passCase{
		{"d3 ann take 4", "0 0 31", "- grant 4 bob ann 1234 job lab j"},
		{"d3 ann take 6", "4 0 0", ""},
		{"d3 ann take 16", "4 0 0", ""},
		{"d3 ann take 1", "3 0 0", ""},
	})
}

// fullBook is the pass book with so many objects, the last ones vols w00, w01, .. of ops.
func fullBook(size int) impl.GateBook {
	b := passBook()
	for n := 0; len(b.Objects) < size; n++ {
		b.Objects = append(b.Objects, objectOf(fmt.Sprintf("vol w%02d ops 1 1,,", n)))
	}
	return b
}

// grantedBook is the pass book with so many grants, the last ones to zoe.
func grantedBook(size int) impl.GateBook {
	b := passBook()
	b.Now, b.Given = 60, 60
	for n := 20; len(b.Grants) < size; n++ {
		b.Grants = append(b.Grants, impl.GateGrant{Number: n, To: "zoe", By: "ann", Rule: ruleOf("1 job lab j")})
	}
	return b
}

func TestPassLimits(t *testing.T) {
	tryPasses(t, passLaw(), fullBook(39), []passCase{
		{"d3 ann make mark m0 ops .", "0 0 31", "+ object mark m0 ops 31 ."},
		{"d3 ann make vol z ops ,,", "0 0 31", "+ object vol z ops 31 ,,"},
	})
	tryPasses(t, passLaw(), fullBook(40), []passCase{
		{"d3 ann make mark m0 ops .", "11 0 0", ""},
		{"d3 ann make vol z ops ,,", "11 0 0", ""},
		{"d1 ann make vol v3 pit 9,,", "11 0 0", ""},
		{"d1 ann make vol v3 pit 10,,", "10 4 0", ""},
		{"d3 ann make job j4 ops ,,b2,,,", "9 2 0", ""},
		{"d3 ann make berth b3 ops ,", "7 0 0", ""},
		{"d3 zoe make mark m0 ops .", "4 0 0", ""},
		{"d3 ann make mark m1 ops .", "3 0 0", ""},
		// The others need no room.
		{"d3 ann change vol w30 0 2,,", "0 0 31", "- object vol w30 ops 1 1,,; + object vol w30 ops 31 2,,"},
		{"d3 ann end vol w30 1", "0 0 31", "- object vol w30 ops 1 1,,; + object vol w30 ops 31 1,, ending"},
		{"d3 ann letgo job j1 h", "0 0 31", "- object job j1 lab 5 4,small,b1,,,v1 +h +k; + object job j1 lab 31 4,small,b1,,,v1 +k"},
		{"d3 ann give zoe 1 . . .", "0 0 31", "+ grant 31 zoe ann 1 . . ."},
	})
	tryPasses(t, passLaw(), grantedBook(23), []passCase{
		{"d3 ann give zoe 1 . . .", "0 0 61", "+ grant 61 zoe ann 1 . . ."},
	})
	tryPasses(t, passLaw(), grantedBook(24), []passCase{
		{"d3 ann give zoe 1 . . .", "11 0 0", ""},
		{"d3 zoe give zoe 1 . . .", "4 0 0", ""},
		{"d3 ann give zoe 16 . . .", "2 0 0", ""},
		{"d3 ann take 36", "0 0 61", "- grant 36 zoe ann 1 job lab j"},
		{"d3 ann take 37", "3 0 0", ""},
		{"d3 ann make mark m0 ops .", "0 0 61", "+ object mark m0 ops 61 ."},
	})
}

func TestPassAtTheLastVersion(t *testing.T) {
	asks := []string{"make mark m0 ops .", "change job j1 5 4,small,b1,,,v1", "end job j1 5", "letgo job j1 h", "give zoe 1 . . .", "take 16"}
	last, below := passBook(), passBook()
	last.Now, below.Now = 1000000, 999999
	for _, ask := range asks {
		tryPasses(t, passLaw(), last, []passCase{{"d3 ann " + ask, "11 0 0", ""}})
		got, said := impl.GatePass(passLaw(), below, "d3", askOf("ann "+ask))
		if said != (impl.GateSaid{Version: 1000000}) || got.Now != 1000000 || !impl.GateBookOk(passLaw(), got) {
			t.Errorf("%s one below the last version: %+v, %s", ask, said, bookText(got))
		}
		if _, said := impl.GatePass(passLaw(), got, "d3", askOf("ann make mark m7 ops .")); said.Code != 11 {
			t.Errorf("behind %s: %+v", ask, said)
		}
	}
	last.Given = 1000000
	last.Grants[6].Number = 1000000
	tryPasses(t, passLaw(), last, []passCase{{"d3 ann give zoe 1 . . .", "11 0 0", ""}, {"d3 ann take 1000000", "11 0 0", ""}, {"d3 ann take 999999", "3 0 0", ""}, {"d3 eve take 1000000", "4 0 0", ""}})
}

// Inputs at which several codes would stand: of each row one is mended from line to line, and the next code stands.
func TestPassOrderOfCodes(t *testing.T) {
	b := fullBook(40)
	b.Now = 1000000
	tryPasses(t, passLaw(), b, []passCase{
		{"D zoe make job j1 lab 99,,b9,,, +b +a", "1 0 0", ""},
		{"d3 zoe make job j1 lab 99,,b9,,, +b +a", "2 0 0", ""},
		{"d3 zoe make job j1 lab 99,,b9,,,", "3 0 0", ""},
		{"d3 zoe make job j4 lab 99,,b9,,,", "4 0 0", ""},
		{"d3 ann make job j4 lab 99,,b9,,,", "7 0 0", ""},
		{"d3 ann make job j4 lab 9,,b9,,,", "9 2 0", ""},
		{"d3 ann make job j4 lab 9,,b1,,,", "10 0 0", ""},
		{"d2 ann make job j4 lab 9,,b1,,,", "11 0 0", ""},
		{"D zoe change job j4 9 99,big,b9,,", "1 0 0", ""},
		{"d3 zoe change job j4 9 99,big,b9,,", "2 0 0", ""},
		{"d3 zoe change job j4 9 99,tiny,b9,,,", "3 0 0", ""},
		{"d3 zoe change job j3 9 99,tiny,b9,,,", "4 0 0", ""},
		{"d3 ann change job j3 9 99,tiny,b9,,,", "5 0 6", ""},
		{"d3 ann change job j3 6 99,tiny,b9,,,", "6 0 0", ""},
		{"d3 ann change job j1 5 99,tiny,b9,,,", "7 0 0", ""},
		{"d3 ann change job j1 5 9,tiny,b9,,,", "7 1 0", ""},
		{"d3 ann change job j1 5 9,big,b9,,,", "8 1 0", ""},
		{"d3 ann change job j1 5 9,small,b9,,,", "8 5 0", ""},
		{"d3 ann change job j1 5 9,small,b9,,,v1", "9 2 0", ""},
		{"d3 ann change job j1 5 9,small,b1,,,v1", "10 1 0", ""},
		{"d1 ann change job j1 5 9,small,b1,,,v1", "10 2 0", ""},
		{"d2 ann change job j1 5 9,small,b1,,,v1", "11 0 0", ""},
		{"D zoe end job j4 -9", "1 0 0", ""},
		{"d3 zoe end job j4 -9", "2 0 0", ""},
		{"d3 zoe end job j4 9", "3 0 0", ""},
		{"d3 zoe end job j3 9", "4 0 0", ""},
		{"d3 ann end job j3 9", "5 0 6", ""},
		{"d3 ann end job j3 0", "6 0 0", ""},
		{"d3 ann end job j1 0", "11 0 0", ""},
		{"D zoe letgo job j4 X", "1 0 0", ""},
		{"d3 zoe letgo job j4 X", "2 0 0", ""},
		{"d3 zoe letgo job j4 x", "3 0 0", ""},
		{"d3 zoe letgo job j1 x", "4 0 0", ""},
		{"d3 ann letgo job j1 x", "11 0 0", ""},
		{"d3 ann letgo job j1 h", "11 0 0", ""},
		{"D zoe give yan 6 . . .", "1 0 0", ""},
		{"d3 zoe give yan 6 . . .", "2 0 0", ""},
		{"d3 zoe give yan 5 . . .", "4 0 0", ""},
		{"d3 ann give yan 5 . . .", "11 0 0", ""},
		{"D zoe take 0", "1 0 0", ""},
		{"d3 zoe take 0", "2 0 0", ""},
		{"d3 zoe take 2", "3 0 0", ""},
		{"d3 zoe take 1", "4 0 0", ""},
		{"d3 ann take 1", "11 0 0", ""},
	})
}

// Where what is new lies: objects by Kind and Name, a grant behind all others, and the purses that are left as they were.
func TestPassPlaces(t *testing.T) {
	for ask, want := range map[string]int{
		"make berth a ops 1,": 0, "make berth b11 ops 1,": 1, "make berth c ops 1,": 2, "make job a ops ,,,,,": 2, "make job j ops ,,,,,": 2, "make job j10 ops ,,,,,": 3, "make job j4 ops ,,,,,": 5,
		"make job z ops ,,,,,": 6, "make mark a ops .": 6, "make mark m1- ops .": 7, "make vol a ops ,,": 7, "make vol v10 ops ,,": 8, "make vol z ops ,,": 9,
	} {
		a := askOf("ann " + ask)
		got, said := impl.GatePass(passLaw(), passBook(), "d2", a)
		if said.Code != 0 || got.Objects[want].Name != a.Name || got.Objects[want].Kind != a.Kind {
			t.Errorf("%s: %+v, %s", ask, said, bookText(got))
			continue
		}
		if !same(slices.Delete(slices.Clone(got.Objects), want, want+1), passBook().Objects) {
			t.Errorf("%s: the others are not as they were: %s", ask, bookText(got))
		}
	}
	got, _ := impl.GatePass(passLaw(), passBook(), "d3", askOf("ann give abe 1 . . ."))
	if !same(got.Grants[:7], passBook().Grants) || got.Grants[7].To != "abe" {
		t.Errorf("the grant is not behind all others: %s", bookText(got))
	}
	got, _ = impl.GatePass(passLaw(), passBook(), "d1", askOf("ann make job j9 lab 4,,,,,"))
	var left []string
	for _, line := range linesOf(got) {
		if strings.HasPrefix(line, "purse") {
			left = append(left, line)
		}
	}
	if want := "purse d1 dev need 2 7, purse d1 pit vol 10 9, purse d2 dev job 9 9, purse d2 dev need 30 7, purse d2 lab need 30 17, purse d2 ops room 40 8, purse d2 pit vol 100 9"; strings.Join(left, ", ") != want {
		t.Errorf("%v", left)
	}
}

// A row of asks, each of the book that the last one left.
func TestPassRow(t *testing.T) {
	l := passLaw()
	b := bookOf("now 1 tick 0 given 1\ngrant 1 ann . 12345 . . .")
	b, _ = impl.GateBound(l, b, "dev", "need", 10)
	b, _ = impl.GateDraw(l, b, "d", "dev", "need", 6)
	for i, c := range []struct{ ask, said string }{
		{"ann make berth b lab 3, +h", "0 0 2"}, {"ann make job j lab 4,,b,,,", "0 0 3"}, {"bob make job k lab 1,,,,j,", "4 0 0"}, {"ann give bob 123 job lab .", "0 0 4"},
		{"bob make job k lab 3,,,,j,", "10 0 0"}, {"bob make job k lab 2,,,,j,", "0 0 5"}, {"ann change job j 3 ,,b,,,", "0 0 6"}, {"ann change job j 3 ,,b,,,", "5 0 6"}, {"ann change job j 6 2,,b,,,", "10 0 0"},
		{"bob end job j 0", "0 0 7"}, {"bob end job j 0", "6 0 0"}, {"bob change job k 0 2,,,j,j,", "9 3 0"}, {"bob letgo berth b h", "4 0 0"}, {"ann letgo berth b h", "0 0 8"}, {"ann letgo berth b h", "11 0 0"},
		{"bob take 4", "4 0 0"}, {"ann take 4", "0 0 9"}, {"ann take 4", "3 0 0"}, {"bob end job k 0", "4 0 0"},
	} {
		got, said := impl.GatePass(l, b, "d", askOf(c.ask))
		if told := fmt.Sprint(said.Code, " ", said.Place, " ", said.Version); told != c.said {
			t.Fatalf("%d, %s: %s, not %s of %s", i, c.ask, told, c.said, bookText(b))
		}
		b = got
		holdBounds(t, l, b)
	}
	want := bookOf(`
		now 9 tick 0 given 9
		object berth b lab 8 3,a
		object job j lab 7 1,,b,,, ending
		object job k lab 5 2,,,,j,
		grant 1 ann . 12345 . . .
		ledger dev need 7 10
	`)
	if !same(b, want) {
		t.Errorf("%s\nnot %s", bookText(b), bookText(want))
	}
}

// With a law, a book or a door that is not ok the code is 1, whatever is asked; with an ask that is not ok it is 2; the book is nothing then.
func TestPassNotOk(t *testing.T) {
	asks := []impl.GateAsk{askOf("ann make vol v3 ops 1,"), askOf("ann change vol v1 0 1,"), askOf("ann end vol v1 0"), askOf("ann letgo job j1 h"), askOf("ann give zoe 1 . . ."), askOf("ann take 4"), {}, {Who: "ann", Verb: 9}}
	for _, a := range asks {
		want := 0
		if a.Verb < 1 || a.Verb > 6 {
			want = 2
		}
		if _, said := impl.GatePass(bookLaw(), sampleBook(), "d1", a); said.Code != want {
			t.Fatalf("%+v: %+v", a, said)
		}
		for name, b := range badBooks() {
			if got, said := impl.GatePass(bookLaw(), b, "d1", a); said != (impl.GateSaid{Code: 1}) || !same(got, impl.GateBook{}) {
				t.Errorf("%+v of a book with a fault (%s): %+v, %s", a, name, said, bookText(got))
			}
		}
		for name, l := range badLaws() {
			for _, b := range []impl.GateBook{sampleBook(), {}} {
				if got, said := impl.GatePass(l, b, "d1", a); said != (impl.GateSaid{Code: 1}) || !same(got, impl.GateBook{}) {
					t.Errorf("%+v by a law with a fault (%s): %+v, %s", a, name, said, bookText(got))
				}
			}
		}
		for i, door := range oddTexts() {
			got, said := impl.GatePass(bookLaw(), sampleBook(), door, a)
			if nameForm.MatchString(door) {
				if said.Code != want {
					t.Errorf("%+v through odd door %d: %+v", a, i, said)
				}
			} else if said != (impl.GateSaid{Code: 1}) || !same(got, impl.GateBook{}) {
				t.Errorf("%+v through odd door %d: %+v, %s", a, i, said, bookText(got))
			}
		}
	}
	for _, a := range fullAsks() {
		if _, said := impl.GatePass(impl.GateLaw{}, impl.GateBook{}, "d", a); said.Code == 0 || said.Code == 1 {
			t.Errorf("%+v by a law of nothing: %+v", a, said)
		}
	}
}

// Any bytes as a value are a fault of the field, or, where they fit, pass.
func TestPassOddValues(t *testing.T) {
	for i, text := range oddTexts() {
		for place := range 6 {
			for _, a := range []impl.GateAsk{askOf("ann make job j4 ops ,,,,,"), askOf("ann change job j5 0 ,,,,,")} {
				a.Values[place] = text
				want, wantSaid := saidPass(passLaw(), passBook(), "d2", a)
				if got, said := impl.GatePass(passLaw(), passBook(), "d2", a); said != wantSaid || !same(got, want) {
					t.Errorf("odd text %d at %d, verb %d: %+v, not %+v", i, place, a.Verb, said, wantSaid)
				}
			}
		}
	}
}

func TestPassMemory(t *testing.T) {
	last, full := passBook(), fullBook(40)
	last.Now = 1000000
	for _, c := range []struct {
		ask  string
		book impl.GateBook
		code int
	}{
		{"d1 ann make job j4 lab 3,small,b1,j1,j5,v1 +a +b", passBook(), 0}, {"d3 ann make mark m0 ops .", passBook(), 0}, {"d1 ann change job j1 5 8,small,b1,,,v1", passBook(), 0},
		{"d1 ann change job j1 5 1,small,b1,j5,,v1", passBook(), 0}, {"d3 ann end job j1 5", passBook(), 0}, {"d3 ann letgo job j1 h", passBook(), 0}, {"d3 ann give zoe 12345 job lab j", passBook(), 0}, {"d3 ann take 4", passBook(), 0},
		{"D ann take 4", passBook(), 1}, {"d3 ann take 4", badBooks()["sum"], 1}, {"d3 ann make job j4 lab 3 +b +a", passBook(), 2}, {"d3 ann take 2", passBook(), 3}, {"d3 ann make job j1 lab ,,,,, +h", passBook(), 3},
		{"d3 zoe give zoe 1 . . .", passBook(), 4}, {"d3 cy give zoe 1 job lab jj", passBook(), 4}, {"d3 ann end job j1 6", passBook(), 5}, {"d3 ann end job j3 0", passBook(), 6}, {"d3 ann make berth x ops ,", passBook(), 7}, {"d3 ann change job j1 0 ,,,,,", passBook(), 8},
		{"d3 ann change job j5 0 ,,b2,,,", passBook(), 9}, {"d3 ann change job j5 0 32,,,,,", passBook(), 10}, {"d3 ann letgo job j1 x", passBook(), 11}, {"d3 ann give zoe 1 . . .", last, 11}, {"d3 ann make mark m0 ops .", full, 11},
	} {
		door, text, _ := strings.Cut(c.ask, " ")
		l, b, a := withRoom(passLaw()), withRoom(c.book), withRoom(askOf(text))
		args := []any{l, b, a}
		ownMemory(t, c.ask, args, func() any {
			got, said := impl.GatePass(l, b, door, a)
			if said.Code != c.code {
				t.Errorf("%s: %+v, not %d", c.ask, said, c.code)
			}
			return got
		})
		ownMemory(t, "GateAskOk: "+c.ask, args, func() any { return impl.GateAskOk(l, a) })
		ownMemory(t, "GateMay: "+c.ask, args, func() any { return impl.GateMay(l, b, a.Who, actOf("1 job lab j")) })
	}
}
