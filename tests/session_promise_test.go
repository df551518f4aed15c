package tests

import (
	"maps"
	"math/rand"
	"regexp"
	"slices"
	"strings"
	"testing"
)

// Promises 5 to 8 and 10 through sessions, by nothing but what they answer.

// sight is what lines ask of a session at its end.
type sight struct {
	answers []string
	ledgers map[string]shownLedger
	doomed  []string
	objects map[string]shownObject
}

type shownLedger struct{ used, out, free, most int }

type shownObject struct {
	team    string
	version int
	ending  bool
	values  map[string]string
	holds   string
}

// sightLines asks for all that the drawn sessions can have in their books.
func sightLines() []string {
	lines := []string{"books", "doomed", "safe"}
	for _, kind := range []string{"berth", "job", "vol"} {
		for _, name := range []string{"b1", "b2", "b3", "c1", "c2", "c3"} {
			lines = append(lines, "show "+kind+" "+name)
		}
	}
	for _, who := range []string{"ann", "bob", "cy", "dan"} {
		for _, act := range []string{"1 job lab bb", "2 vol dev b", "3 berth ops x", "4 berth lab c", "5 job dev b"} {
			lines = append(lines, "may "+who+" "+act)
		}
	}
	return lines
}

var ledgerForm = regexp.MustCompile(`^([a-z]+/[a-z]+) (\d+)\+(\d+)\+(\d+)=(\d+)$`)

// sightOf plays lines, and asks then.
func sightOf(t *testing.T, lines []string) sight {
	t.Helper()
	asked := sightLines()
	s := sight{answers: answersTo(t, slices.Concat(lines, asked))[len(lines):], ledgers: map[string]shownLedger{}, objects: map[string]shownObject{}}
	if s.answers[0] != "none" {
		for _, text := range strings.Split(s.answers[0], "; ") {
			w := ledgerForm.FindStringSubmatch(text)
			if w == nil {
				t.Fatalf("no ledger: %q", text)
			}
			s.ledgers[w[1]] = shownLedger{numberAt(w[2]), numberAt(w[3]), numberAt(w[4]), numberAt(w[5])}
		}
	}
	words := strings.Split(s.answers[1], " ")
	if s.doomed = words[1:]; numberAt(words[0]) != len(s.doomed) {
		t.Fatalf("not as many as told: %q", s.answers[1])
	}
	for i, line := range asked {
		if key, found := strings.CutPrefix(line, "show "); found && s.answers[i] != "none" {
			s.objects[strings.Replace(key, " ", "/", 1)] = shownOf(s.answers[i])
		}
	}
	return s
}

func shownOf(answer string) shownObject {
	words := strings.Split(answer, " ")
	o := shownObject{team: words[0], version: numberAt(words[1]), values: map[string]string{}}
	for _, word := range words[2:] {
		switch field, value, isValue := strings.Cut(word, "="); {
		case word == "ending":
			o.ending = true
		case word[0] == '+':
			o.holds += word
		case isValue:
			o.values[field] = value
		default:
			panic(answer)
		}
	}
	return o
}

// changesNothing is what no line may change that is refused, or that turns no book.
func changesNothing(line, answer string) bool {
	return !strings.HasPrefix(answer, "code 0 ") || slices.Contains([]string{"ask", "look", "lose", "die", "rise"}, firstWord(line))
}

func TestSessionsKeepPromises(t *testing.T) {
	t.Parallel()
	c := chance{rand.New(rand.NewSource(24))}
	seen := map[string]int{}
	for range 20 {
		lines, answers := c.busySession(80)
		before := sightOf(t, nil)
		for i := range lines {
			row := lines[:i+1]
			after := sightOf(t, row)
			if changesNothing(lines[i], answers[i]) {
				seen["nothing changes"]++
				if !slices.Equal(before.answers, after.answers) {
					t.Fatalf("%s: %s, and behind it %q\nnot %q\n%s", lines[i], answers[i], after.answers, before.answers, joined(row))
				}
			} else if !slices.Equal(before.answers, after.answers) {
				seen["something changes"]++
			}
			if after.answers[2] != "yes" {
				t.Fatalf("not safe:\n%s", joined(row))
			}
			after.holdBounds(t, row, seen)
			after.holdLinks(t, row, seen)
			if i%8 == 7 {
				after.holdPurses(t, row, seen)
				after.holdEnds(t, row, seen)
			}
			before = after
		}
	}
	comesUp(t, seen, 500, "nothing changes", "ledger", "link")
	comesUp(t, seen, 200, "something changes", "ledger with a purse", "ledger that is used")
	comesUp(t, seen, 20, "purse that comes back", "doomed", "ending that stays")
	comesUp(t, seen, 5, "emptied link")
	comesUp(t, seen, 1, "row of sweeps")
}

// Promise 5: what is used, in the purses and free is together the bound, and what is used is what the objects weigh.
func (s sight) holdBounds(t *testing.T, lines []string, seen map[string]int) {
	t.Helper()
	weighs := map[string][2]string{"room": {"berth", "room"}, "need": {"job", "need"}, "disk": {"vol", "size"}}
	for account, g := range s.ledgers {
		team, resource, _ := strings.Cut(account, "/")
		used := 0
		for key, o := range s.objects {
			kind, _, _ := strings.Cut(key, "/")
			if o.team != team && !(team == "dev" && o.team == "lab") {
				continue
			}
			if kind == resource {
				used++
			}
			if weighs[resource][0] == kind {
				used += numberAt(o.values[weighs[resource][1]])
			}
		}
		if g.used != used || g.used+g.out+g.free != g.most {
			t.Fatalf("%s is %+v, and %d is used\n%s", account, g, used, joined(lines))
		}
		seen["ledger"]++
		if g.out > 0 {
			seen["ledger with a purse"]++
		}
		if g.used > 0 {
			seen["ledger that is used"]++
		}
	}
}

// Promise 7: what a link names is there.
func (s sight) holdLinks(t *testing.T, lines []string, seen map[string]int) {
	t.Helper()
	for key, o := range s.objects {
		if !strings.HasPrefix(key, "job/") {
			continue
		}
		for field, kind := range map[string]string{"on": "berth/", "vol": "vol/", "of": "job/"} {
			if name := o.values[field]; name != "" {
				seen["link"]++
				if _, found := s.objects[kind+name]; !found {
					t.Fatalf("%s names %s %s, which is not there\n%s", key, field, name, joined(lines))
				}
			}
		}
	}
}

// Promise 6: all purses come back whole, when they are given back and when the doors are dead.
func (s sight) holdPurses(t *testing.T, lines []string, seen map[string]int) {
	t.Helper()
	dead := slices.Concat(lines, []string{"die d1", "die d2"}, slices.Repeat([]string{"tick"}, 11))
	back := slices.Concat(lines, []string{"rise d1", "rise d2"})
	for account := range s.ledgers {
		for _, door := range []string{"d1", "d2"} {
			back = append(back, "back "+door+" "+strings.Replace(account, "/", " ", 1))
		}
	}
	for _, row := range [][]string{dead, back} {
		later := sightOf(t, row)
		for account, g := range s.ledgers {
			if g.out > 0 {
				seen["purse that comes back"]++
			}
			if want := (shownLedger{g.used, 0, g.free + g.out, g.most}); later.ledgers[account] != want {
				t.Fatalf("%s is %+v, not %+v\n%s", account, later.ledgers[account], want, joined(row))
			}
		}
		if !slices.Equal(later.answers[1:], s.answers[1:]) {
			t.Fatalf("purses came back, and something else changed: %q\nnot %q\n%s", later.answers, s.answers, joined(row))
		}
	}
}

// Promise 8: behind sweeps enough just those are gone that were doomed.
func (s sight) holdEnds(t *testing.T, lines []string, seen map[string]int) {
	t.Helper()
	row := slices.Concat(lines, slices.Repeat([]string{"sweep"}, len(s.objects)+1))
	sweeps := 0
	for i, answer := range answersTo(t, row)[len(lines):] {
		if answer == "code 0 place 0 version 0" {
			sweeps++
		}
		if last := answer == "code 2 place 0 version 0"; last != (i >= sweeps) || !last && i == len(s.objects) {
			t.Fatalf("sweep %d of %d objects: %s\n%s", i, len(s.objects), answer, joined(row))
		}
	}
	if sweeps > 1 {
		seen["row of sweeps"]++
	}
	later := sightOf(t, row)
	for key, o := range s.objects {
		last, stays := later.objects[key]
		if stays == slices.Contains(s.doomed, key) {
			t.Fatalf("%s stays: %v, doomed were %v\n%s", key, stays, s.doomed, joined(row))
		}
		if !stays {
			seen["doomed"]++
			continue
		}
		if last.ending {
			seen["ending that stays"]++
		}
		values := maps.Clone(o.values)
		if name := values["vol"]; strings.HasPrefix(key, "job/") && slices.Contains(s.doomed, "vol/"+name) {
			seen["emptied link"]++
			delete(values, "vol")
		}
		if !maps.Equal(last.values, values) || last.holds != o.holds || last.team != o.team || last.version < o.version || o.ending && !last.ending {
			t.Fatalf("%s was %+v and is %+v\n%s", key, o, last, joined(row))
		}
	}
	for key := range later.objects {
		if _, found := s.objects[key]; !found {
			t.Fatalf("%s came up in a sweep\n%s", key, joined(row))
		}
	}
	later.holdBounds(t, row, seen)
	later.holdLinks(t, row, seen)
}
