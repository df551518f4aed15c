package tests

import (
	"fmt"
	"math"
	"slices"
	"strings"
	"testing"

	"loop.example/wharfgate/impl"
)

// purseCase is a call by its words, what its code is, and which lines of the book it changes: "- line" goes, "+ line" comes.
type purseCase struct {
	call    string
	code    int
	changes string
}

// purseCall does what words say: "draw DOOR TEAM RESOURCE AMOUNT", "back DOOR TEAM RESOURCE", "tick", "bound TEAM RESOURCE MOST"; "." stands for nothing.
func purseCall(l impl.GateLaw, b impl.GateBook, call string) (impl.GateBook, int) {
	words := strings.Fields(call)
	for i := range words {
		words[i] = strings.ReplaceAll(words[i], ".", "")
	}
	number := 0
	if len(words) > 1 {
		fmt.Sscan(words[len(words)-1], &number)
	}
	switch words[0] {
	case "draw":
		return impl.GateDraw(l, b, words[1], words[2], words[3], number)
	case "back":
		return impl.GateBack(l, b, words[1], words[2], words[3])
	case "tick":
		return impl.GateTick(l, b)
	case "bound":
		return impl.GateBound(l, b, words[1], words[2], number)
	}
	panic(call)
}

// linesOf tells the counts, ledgers and purses of a book as bookOf reads them.
func linesOf(b impl.GateBook) []string {
	lines := []string{fmt.Sprintf("now %d tick %d given %d", b.Now, b.Tick, b.Given)}
	for _, g := range b.Ledgers {
		lines = append(lines, fmt.Sprintf("ledger %s %s %d %d", g.Team, g.Resource, g.Free, g.Most))
	}
	for _, p := range b.Purses {
		lines = append(lines, fmt.Sprintf("purse %s %s %s %d %d", p.Door, p.Team, p.Resource, p.Amount, p.Until))
	}
	return lines
}

// changesOf tells which lines are not in both books.
func changesOf(old, b impl.GateBook) string {
	return changedLines(linesOf(old), linesOf(b))
}

// tryPurses also asks that the book stays ok and nothing else of it changes, and that with a code it is as it was.
func tryPurses(t *testing.T, l impl.GateLaw, b impl.GateBook, cases []purseCase) {
	t.Helper()
	if !impl.GateBookOk(l, b) {
		t.Fatalf("not ok: %s", bookText(b))
	}
	for _, c := range cases {
		got, code := purseCall(l, b, c.call)
		if code != c.code {
			t.Errorf("%s: code %d, not %d", c.call, code, c.code)
		}
		if changes := changesOf(b, got); changes != c.changes {
			t.Errorf("%s: %s\nnot %s", c.call, changes, c.changes)
		}
		if !impl.GateBookOk(l, got) {
			t.Errorf("%s: not ok: %s", c.call, bookText(got))
		}
		if code != 0 && !same(got, b) || !same(got.Objects, b.Objects) || !same(got.Grants, b.Grants) {
			t.Errorf("%s: the book is not as it was: %s", c.call, bookText(got))
		}
	}
}

// manyPurses is the sample with so many purses, the last ones of doors e00, e01, ..
func manyPurses(size int) impl.GateBook {
	b := sampleBook()
	for n := 0; len(b.Purses) < size; n++ {
		b.Purses = append(b.Purses, impl.GatePurse{Door: fmt.Sprintf("e%02d", n), Team: "lab", Resource: "need", Amount: 1, Until: 9})
		b.Ledgers[2].Most++
	}
	return b
}

// manyLedgers is the sample with so many ledgers, the last ones of sub, x0, x1, ..
func manyLedgers(size int) impl.GateBook {
	b := sampleBook()
	for n := 0; len(b.Ledgers) < size; n++ {
		b.Ledgers = append(b.Ledgers, impl.GateLedger{Team: "sub", Resource: fmt.Sprintf("x%d", n), Most: 5, Free: 5})
	}
	return b
}

func TestDraw(t *testing.T) {
	l := bookLaw()
	tryPurses(t, l, sampleBook(), []purseCase{
		// A new purse, ahead of others, between them and behind them.
		{"draw c dev need 5", 0, "- ledger dev need 20 40; + ledger dev need 15 40; + purse c dev need 5 17"},
		{"draw d11 dev need 5", 0, "- ledger dev need 20 40; + ledger dev need 15 40; + purse d11 dev need 5 17"},
		{"draw d2 lab need 5", 0, "- ledger lab need 18 30; + ledger lab need 13 30; + purse d2 lab need 5 17"},
		{"draw e lab need 5", 0, "- ledger lab need 18 30; + ledger lab need 13 30; + purse e lab need 5 17"},
		// One that is there already has so much more, and lasts until Tick + GatePurseLife.
		{"draw d1 dev need 5", 0, "- ledger dev need 20 40; - purse d1 dev need 6 7; + ledger dev need 15 40; + purse d1 dev need 11 17"},
		{"draw d2 dev need 1", 0, "- ledger dev need 20 40; - purse d2 dev need 3 8; + ledger dev need 19 40; + purse d2 dev need 4 17"},
		{"draw d1 lab need 1", 0, "- ledger lab need 18 30; - purse d1 lab need 1 17; + ledger lab need 17 30; + purse d1 lab need 2 17"},
		// 1, Free, and one beyond either.
		{"draw c dev need 1", 0, "- ledger dev need 20 40; + ledger dev need 19 40; + purse c dev need 1 17"},
		{"draw c dev need 0", 2, ""},
		{"draw c dev need -1", 2, ""},
		{"draw c dev need 20", 0, "- ledger dev need 20 40; + ledger dev need 0 40; + purse c dev need 20 17"},
		{"draw c dev need 21", 3, ""},
		{"draw d1 dev need 20", 0, "- ledger dev need 20 40; - purse d1 dev need 6 7; + ledger dev need 0 40; + purse d1 dev need 26 17"},
		{"draw d1 dev need 21", 3, ""},
		{"draw d1 dev need 0", 2, ""},
		{"draw c ops room 1", 3, ""},
		{"draw d2 pit vol 1", 3, ""},
		{"draw c dev need 1000000", 3, ""},
		{"draw c dev need 1000001", 2, ""},
		{"draw d1 dev need -6", 2, ""},
		{"draw c dev need 9223372036854775807", 2, ""},
		{"draw c dev need -9223372036854775808", 2, ""},
		// No such ledger: also where a team over it, or under it, has one.
		{"draw c sea need 1", 2, ""},
		{"draw c pit need 1", 2, ""},
		{"draw c ops need 1", 2, ""},
		{"draw c lab job 1", 2, ""},
		{"draw c none need 1", 2, ""},
		{"draw c dev none 1", 2, ""},
		{"draw c need dev 1", 2, ""},
		{"draw c . need 1", 2, ""},
		{"draw c dev . 1", 2, ""},
		{"draw c DEV need 1", 2, ""},
		// The door is a name.
		{"draw . dev need 1", 2, ""},
		{"draw D dev need 1", 2, ""},
		{"draw d! dev need 1", 2, ""},
		{"draw d234567890123456 dev need 1", 0, "- ledger dev need 20 40; + ledger dev need 19 40; + purse d234567890123456 dev need 1 17"},
		{"draw d2345678901234567 dev need 1", 2, ""},
		// A door may have the name of anything.
		{"draw dev dev need 1", 0, "- ledger dev need 20 40; + ledger dev need 19 40; + purse dev dev need 1 17"},
		// Of several codes the first counts.
		{"draw D ops room 1", 2, ""},
		{"draw c none room 1000000", 2, ""},
		{"draw c ops room 1000001", 2, ""},
	})
	tryPurses(t, l, manyPurses(23), []purseCase{
		{"draw c dev need 1", 0, "- ledger dev need 20 40; + ledger dev need 19 40; + purse c dev need 1 17"},
	})
	tryPurses(t, l, manyPurses(24), []purseCase{
		{"draw c dev need 1", 4, ""},
		{"draw z dev need 20", 4, ""},
		{"draw d2 lab need 1", 4, ""},
		// One that is there already is no new one.
		{"draw d1 dev need 1", 0, "- ledger dev need 20 40; - purse d1 dev need 6 7; + ledger dev need 19 40; + purse d1 dev need 7 17"},
		{"draw e19 lab need 1", 0, "- ledger lab need 18 50; - purse e19 lab need 1 9; + ledger lab need 17 50; + purse e19 lab need 2 17"},
		// Of several codes the first counts.
		{"draw c dev need 21", 3, ""},
		{"draw c ops room 1", 3, ""},
		{"draw c dev need 0", 2, ""},
		{"draw C dev need 1", 2, ""},
		{"draw c dev vol 1", 2, ""},
	})
	tryPurses(t, l, bookOf("now 0 tick 1000000 given 0\nledger dev x 1000000 1000000"), []purseCase{
		{"draw c dev x 1000000", 0, "- ledger dev x 1000000 1000000; + ledger dev x 0 1000000; + purse c dev x 1000000 1000010"},
		{"draw c dev x 999999", 0, "- ledger dev x 1000000 1000000; + ledger dev x 1 1000000; + purse c dev x 999999 1000010"},
		{"draw c dev x 1000001", 2, ""},
	})
	tryPurses(t, l, bookOf("now 0 tick 0 given 0\nledger dev x 1 1000000\npurse c dev x 999999 0"), []purseCase{
		{"draw c dev x 1", 0, "- ledger dev x 1 1000000; - purse c dev x 999999 0; + ledger dev x 0 1000000; + purse c dev x 1000000 10"},
		{"draw c dev x 2", 3, ""},
	})
	tryPurses(t, l, impl.GateBook{}, []purseCase{{"draw c dev need 1", 2, ""}})
}

// A purse that is drawn upon again lasts as long as a new one, also what was in it before.
func TestDrawAgain(t *testing.T) {
	l := bookLaw()
	b := bookOf("now 0 tick 0 given 0\nledger dev x 10 10")
	b, _ = impl.GateDraw(l, b, "d", "dev", "x", 4)
	for range 10 {
		b, _ = impl.GateTick(l, b)
	}
	b, code := impl.GateDraw(l, b, "d", "dev", "x", 1)
	if want := bookOf("now 0 tick 10 given 0\nledger dev x 5 10\npurse d dev x 5 20"); code != 0 || !same(b, want) {
		t.Fatalf("code %d: %s", code, bookText(b))
	}
	for range 10 {
		b, _ = impl.GateTick(l, b)
	}
	if want := bookOf("now 0 tick 20 given 0\nledger dev x 5 10\npurse d dev x 5 20"); !same(b, want) {
		t.Fatalf("it does not last: %s", bookText(b))
	}
	b, _ = impl.GateTick(l, b)
	if want := bookOf("now 0 tick 21 given 0\nledger dev x 10 10"); !same(b, want) {
		t.Fatalf("it lasts too long: %s", bookText(b))
	}
}

func TestBack(t *testing.T) {
	tryPurses(t, bookLaw(), sampleBook(), []purseCase{
		{"back d1 dev need", 0, "- ledger dev need 20 40; - purse d1 dev need 6 7; + ledger dev need 26 40"},
		{"back d1 lab need", 0, "- ledger lab need 18 30; - purse d1 lab need 1 17; + ledger lab need 19 30"},
		{"back d2 dev need", 0, "- ledger dev need 20 40; - purse d2 dev need 3 8; + ledger dev need 23 40"},
		{"back d2 pit vol", 0, "- ledger pit vol 0 100; - purse d2 pit vol 95 10; + ledger pit vol 95 100"},
		// There is none: of that door, team or resource.
		{"back d2 lab need", 2, ""},
		{"back d1 pit vol", 2, ""},
		{"back d3 dev need", 2, ""},
		{"back d1 dev job", 2, ""},
		{"back d1 ops need", 2, ""},
		{"back d1 sea need", 2, ""},
		{"back d1 none need", 2, ""},
		{"back d dev need", 2, ""},
		{"back d11 dev need", 2, ""},
		{"back . dev need", 2, ""},
		{"back d1 . need", 2, ""},
		{"back d1 dev .", 2, ""},
		{"back . . .", 2, ""},
		{"back D1 dev need", 2, ""},
	})
	tryPurses(t, bookLaw(), impl.GateBook{}, []purseCase{{"back d1 dev need", 2, ""}})
	tryPurses(t, bookLaw(), manyPurses(24), []purseCase{
		{"back d1 dev need", 0, "- ledger dev need 20 40; - purse d1 dev need 6 7; + ledger dev need 26 40"},
		{"back e19 lab need", 0, "- ledger lab need 18 50; - purse e19 lab need 1 9; + ledger lab need 19 50"},
	})
	tryPurses(t, bookLaw(), bookOf("now 0 tick 1000000 given 0\nledger dev x 0 1000000\npurse c dev x 1000000 1000010"), []purseCase{
		{"back c dev x", 0, "- ledger dev x 0 1000000; - purse c dev x 1000000 1000010; + ledger dev x 1000000 1000000"},
	})
	for i, text := range oddTexts() {
		for _, words := range [][3]string{{text, "dev", "need"}, {"d1", text, "need"}, {"d1", "dev", text}} {
			if got, code := impl.GateBack(bookLaw(), sampleBook(), words[0], words[1], words[2]); code != 2 || !same(got, sampleBook()) {
				t.Errorf("odd text %d: code %d", i, code)
			}
		}
	}
}

func TestTick(t *testing.T) {
	// At 7 the purse Until 7 is still there; at 8 it is not, and the one Until 8 is.
	tryPurses(t, bookLaw(), sampleBook(), []purseCase{
		{"tick", 0, "- now 20 tick 7 given 6; - ledger dev need 20 40; - purse d1 dev need 6 7; + now 20 tick 8 given 6; + ledger dev need 26 40"},
	})
	two := sampleBook()
	two.Purses[2].Until = 7
	tryPurses(t, bookLaw(), two, []purseCase{
		{"tick", 0, "- now 20 tick 7 given 6; - ledger dev need 20 40; - purse d1 dev need 6 7; - purse d2 dev need 3 7; + now 20 tick 8 given 6; + ledger dev need 29 40"},
	})
	all := sampleBook()
	for i := range all.Purses {
		all.Purses[i].Until = 7
	}
	tryPurses(t, bookLaw(), all, []purseCase{
		{"tick", 0, "- now 20 tick 7 given 6; - ledger dev need 20 40; - ledger lab need 18 30; - ledger pit vol 0 100; " +
			"- purse d1 dev need 6 7; - purse d1 lab need 1 7; - purse d2 dev need 3 7; - purse d2 pit vol 95 7; " +
			"+ now 20 tick 8 given 6; + ledger dev need 29 40; + ledger lab need 19 30; + ledger pit vol 95 100"},
	})
	none := sampleBook()
	none.Purses[0].Until = 8
	tryPurses(t, bookLaw(), none, []purseCase{{"tick", 0, "- now 20 tick 7 given 6; + now 20 tick 8 given 6"}})
	last := sampleBook()
	last.Tick = 999999
	for i := range last.Purses {
		last.Purses[i].Until = 1000000
	}
	last.Purses[3].Until = 999999
	tryPurses(t, bookLaw(), last, []purseCase{
		{"tick", 0, "- now 20 tick 999999 given 6; - ledger pit vol 0 100; - purse d2 pit vol 95 999999; + now 20 tick 1000000 given 6; + ledger pit vol 95 100"},
	})
	last.Tick, last.Purses[3].Until = 1000000, 1000000
	tryPurses(t, bookLaw(), last, []purseCase{{"tick", 2, ""}})
	tryPurses(t, bookLaw(), impl.GateBook{}, []purseCase{{"tick", 0, "- now 0 tick 0 given 0; + now 0 tick 1 given 0"}})
	tryPurses(t, bookLaw(), impl.GateBook{Tick: 1000000}, []purseCase{{"tick", 2, ""}})
	tryPurses(t, impl.GateLaw{}, impl.GateBook{Tick: 999999}, []purseCase{{"tick", 0, "- now 0 tick 999999 given 0; + now 0 tick 1000000 given 0"}})
}

func TestBound(t *testing.T) {
	l := bookLaw()
	tryPurses(t, l, sampleBook(), []purseCase{
		// It grows, shrinks to what is used and drawn, and one below.
		{"bound dev need 41", 0, "- ledger dev need 20 40; + ledger dev need 21 41"},
		{"bound dev need 40", 0, ""},
		{"bound dev need 39", 0, "- ledger dev need 20 40; + ledger dev need 19 39"},
		{"bound dev need 20", 0, "- ledger dev need 20 40; + ledger dev need 0 20"},
		{"bound dev need 19", 3, ""},
		{"bound dev need 0", 3, ""},
		{"bound dev need 1000000", 0, "- ledger dev need 20 40; + ledger dev need 999980 1000000"},
		{"bound dev need 1000001", 2, ""},
		{"bound dev need -1", 2, ""},
		{"bound dev need 9223372036854775807", 2, ""},
		{"bound dev need -9223372036854775808", 2, ""},
		{"bound dev job 1", 3, ""},
		{"bound dev job 3", 0, "- ledger dev job 0 2; + ledger dev job 1 3"},
		{"bound pit vol 99", 3, ""},
		{"bound pit vol 101", 0, "- ledger pit vol 0 100; + ledger pit vol 1 101"},
		// The bound of a team within the team is its own.
		{"bound lab need 12", 0, "- ledger lab need 18 30; + ledger lab need 0 12"},
		{"bound lab need 11", 3, ""},
		{"bound lab need 1000000", 0, "- ledger lab need 18 30; + ledger lab need 999988 1000000"},
		// A new ledger, ahead of others, between them and behind them; some of it is used already, by teams under it too.
		{"bound dev berth 5", 0, "+ ledger dev berth 4 5"},
		{"bound dev room 8", 0, "+ ledger dev room 0 8"},
		{"bound dev room 7", 3, ""},
		{"bound dev vol 5", 0, "+ ledger dev vol 0 5"},
		{"bound dev vol 4", 3, ""},
		{"bound lab vol 6", 0, "+ ledger lab vol 1 6"},
		{"bound ops job 1", 0, "+ ledger ops job 0 1"},
		{"bound ops need 4", 3, ""},
		{"bound ops need 5", 0, "+ ledger ops need 0 5"},
		{"bound sea need 1", 0, "+ ledger sea need 0 1"},
		{"bound sea need 0", 3, ""},
		{"bound sub vol 0", 0, "+ ledger sub vol 0 0"},
		{"bound sub x 1000000", 0, "+ ledger sub x 1000000 1000000"},
		{"bound sub x 1000001", 2, ""},
		{"bound sub x -1", 2, ""},
		{"bound sub xxxxxxxxxxxxxxxx 1", 0, "+ ledger sub xxxxxxxxxxxxxxxx 1 1"},
		{"bound sub xxxxxxxxxxxxxxxxx 1", 2, ""},
		// Wrong words.
		{"bound none need 9", 2, ""},
		{"bound DEV need 9", 2, ""},
		{"bound . need 9", 2, ""},
		{"bound de need 9", 2, ""},
		{"bound dev NEED 9", 2, ""},
		{"bound dev . 9", 2, ""},
		{"bound dev a! 9", 2, ""},
		// Of several codes the first counts.
		{"bound none need 0", 2, ""},
		{"bound dev ROOM 0", 2, ""},
	})
	tryPurses(t, l, manyLedgers(9), []purseCase{
		{"bound dev room 8", 0, "+ ledger dev room 0 8"},
		{"bound sub y 8", 0, "+ ledger sub y 8 8"},
	})
	tryPurses(t, l, manyLedgers(10), []purseCase{
		{"bound dev room 8", 4, ""},
		{"bound sub y 0", 4, ""},
		// One that is there already is no new one.
		{"bound dev need 41", 0, "- ledger dev need 20 40; + ledger dev need 21 41"},
		{"bound sub x4 0", 0, "- ledger sub x4 5 5; + ledger sub x4 0 0"},
		// Of several codes the first counts.
		{"bound dev room 7", 3, ""},
		{"bound dev room -1", 2, ""},
		{"bound none room 8", 2, ""},
		{"bound dev need 19", 3, ""},
	})
	tryPurses(t, l, impl.GateBook{}, []purseCase{
		{"bound dev need 0", 0, "+ ledger dev need 0 0"},
		{"bound dev need 10", 0, "+ ledger dev need 10 10"},
	})
	tryPurses(t, impl.GateLaw{}, impl.GateBook{}, []purseCase{{"bound dev need 10", 2, ""}})
	heavy := bookOf("now 1 tick 0 given 0\nobject vol v sub 1 1000000,")
	tryPurses(t, l, heavy, []purseCase{
		{"bound dev vol 1000000", 3, ""},
		{"bound dev job 0", 0, "+ ledger dev job 0 0"},
	})
}

// badBooks is books that are not ok by bookLaw, each by one line of the document.
func badBooks() map[string]impl.GateBook {
	out := map[string]impl.GateBook{}
	for name, spoil := range map[string]func(b *impl.GateBook){
		"Now":             func(b *impl.GateBook) { b.Now = 1000001 },
		"Tick":            func(b *impl.GateBook) { b.Tick = 1000001 },
		"Tick, below 0":   func(b *impl.GateBook) { b.Tick = -1 },
		"Given":           func(b *impl.GateBook) { b.Given = -1 },
		"object":          func(b *impl.GateBook) { b.Objects[0].Version = 0 },
		"values":          func(b *impl.GateBook) { b.Objects[0].Values = nil },
		"link":            func(b *impl.GateBook) { b.Objects[2].Values[3] = "b3" },
		"grant":           func(b *impl.GateBook) { b.Grants[2].To = "" },
		"rule":            func(b *impl.GateBook) { b.Grants[0].Rule.Verbs = nil },
		"ledger":          func(b *impl.GateBook) { b.Ledgers[3].Free = -1 },
		"ledgers, order":  func(b *impl.GateBook) { slices.Reverse(b.Ledgers) },
		"purse":           func(b *impl.GateBook) { b.Purses[0].Until = 6 },
		"purses, order":   func(b *impl.GateBook) { slices.Reverse(b.Purses) },
		"purse, unbound":  func(b *impl.GateBook) { b.Ledgers = b.Ledgers[:4] },
		"sum":             func(b *impl.GateBook) { b.Ledgers[1].Free = 19 },
		"many purses":     func(b *impl.GateBook) { *b = manyPurses(25) },
		"many ledgers":    func(b *impl.GateBook) { *b = manyLedgers(11) },
		"an odd purse":    func(b *impl.GateBook) { b.Purses[1].Amount = math.MinInt },
		"a ledger, twice": func(b *impl.GateBook) { b.Ledgers = slices.Insert(b.Ledgers, 0, b.Ledgers[0]) },
	} {
		b := sampleBook()
		spoil(&b)
		out[name] = b
	}
	return out
}

// With a law or a book that is not ok the code is 1, whatever else is asked, and the book is nothing.
func TestPursesNotOk(t *testing.T) {
	calls := []string{"draw c dev need 5", "draw D none need 0", "draw c dev need 21", "back d1 dev need", "back d9 dev need", "tick", "bound dev need 50", "bound none need -1", "bound dev need 0", "bound dev room 9"}
	for _, call := range calls {
		for name, b := range badBooks() {
			if got, code := purseCall(bookLaw(), b, call); code != 1 || !same(got, impl.GateBook{}) {
				t.Errorf("%s of a book with a fault (%s): code %d, %s", call, name, code, bookText(got))
			}
		}
		for name, l := range badLaws() {
			for _, b := range []impl.GateBook{sampleBook(), {}, {Tick: 1000000}} {
				if got, code := purseCall(l, b, call); code != 1 || !same(got, impl.GateBook{}) {
					t.Errorf("%s by a law with a fault (%s): code %d, %s", call, name, code, bookText(got))
				}
			}
		}
	}
}

func TestPursesOddTexts(t *testing.T) {
	l, b := bookLaw(), sampleBook()
	for i, text := range oddTexts() {
		want := 2
		if nameForm.MatchString(text) {
			want = 0
		}
		if got, code := impl.GateDraw(l, b, text, "dev", "need", 1); code != want || code != 0 && !same(got, b) {
			t.Errorf("odd door %d: code %d", i, code)
		}
		if got, code := impl.GateBound(l, b, "dev", text, 1); code != want || code != 0 && !same(got, b) {
			t.Errorf("odd resource %d: code %d", i, code)
		}
		if got, code := impl.GateDraw(l, b, "c", text, "need", 1); code != 2 || !same(got, b) {
			t.Errorf("odd team %d: code %d", i, code)
		}
		if got, code := impl.GateDraw(l, b, "c", "dev", text, 1); code != 2 || !same(got, b) {
			t.Errorf("odd resource %d to draw: code %d", i, code)
		}
		if got, code := impl.GateBound(l, b, text, "need", 1); code != 2 || !same(got, b) {
			t.Errorf("odd team %d to bound: code %d", i, code)
		}
	}
}

func TestPurseMemory(t *testing.T) {
	full := bookOf("now 0 tick 1000000 given 0")
	for _, c := range []struct {
		call string
		book impl.GateBook
		code int
	}{
		{"draw c dev need 5", sampleBook(), 0}, {"draw d1 dev need 5", sampleBook(), 0}, {"draw z dev need 5", sampleBook(), 0},
		{"draw D dev need 5", sampleBook(), 2}, {"draw c dev need 21", sampleBook(), 3}, {"draw d1 dev need 21", sampleBook(), 3}, {"draw c dev need 5", manyPurses(24), 4},
		{"back d1 dev need", sampleBook(), 0}, {"back d2 pit vol", sampleBook(), 0}, {"back d9 dev need", sampleBook(), 2},
		{"tick", sampleBook(), 0}, {"tick", full, 2},
		{"bound dev need 50", sampleBook(), 0}, {"bound dev room 9", sampleBook(), 0}, {"bound sub x 9", sampleBook(), 0},
		{"bound none x 9", sampleBook(), 2}, {"bound dev need 1", sampleBook(), 3}, {"bound sub y 1", manyLedgers(10), 4},
		{"tick", badBooks()["sum"], 1}, {"bound sub x 9", badBooks()["sum"], 1}, {"draw c dev need 5", badBooks()["sum"], 1}, {"back d1 dev need", badBooks()["sum"], 1},
	} {
		l, b := withRoom(bookLaw()), withRoom(c.book)
		ownMemory(t, c.call, []any{l, b}, func() any {
			got, code := purseCall(l, b, c.call)
			if code != c.code {
				t.Errorf("%s: code %d, not %d", c.call, code, c.code)
			}
			return got
		})
	}
}
