package tests

import (
	"fmt"
	"math/rand"
	"regexp"
	"slices"
	"strconv"
	"strings"
	"testing"

	"loop.example/wharfgate/impl"
)

// The document's words of chapter 11 a second time: each line of the table is a form, played by the calls that it names, which are held against their own words elsewhere.

func saidSessionLaw() impl.GateLaw {
	return impl.GateLaw{
		Shapes: []impl.GateShape{
			{Kind: "berth", Fields: []impl.GateField{
				{Name: "room", Kind: 1, Least: 1, Most: 64, Must: true, Weighs: "room"},
				{Name: "zone", Kind: 2, Words: strings.Fields("a b c"), Default: "a"},
			}},
			{Kind: "job", Fields: []impl.GateField{
				{Name: "need", Kind: 1, Least: 1, Most: 32, Default: "1", Weighs: "need"},
				{Name: "mode", Kind: 2, Words: strings.Fields("big small")},
				{Name: "on", Kind: 4, To: "berth", Role: 1},
				{Name: "vol", Kind: 4, To: "vol", Role: 2},
				{Name: "of", Kind: 4, To: "job", Role: 3},
			}},
			{Kind: "vol", Fields: []impl.GateField{
				{Name: "size", Kind: 1, Least: 1, Most: 100, Must: true, Fixed: true, Weighs: "disk"},
				{Name: "class", Kind: 2, Words: strings.Fields("fast slow")},
				{Name: "note", Kind: 3, Least: 1, Most: 20},
			}},
		},
		Mends: []impl.GateMend{mendOf("job.need=8 if mode is big"), mendOf("vol.note=<class if class is fast"), mendOf("berth.room=4 if zone is c")},
		Teams: teamsOf("dev lab<dev ops"),
	}
}

func saidSessionBook() impl.GateBook {
	return bookOf(`
		now 2 tick 0 given 2
		grant 1 ann . 12345 . . .
		grant 2 bob . 1234 . dev b
	`)
}

// play is a session on its way.
type play struct {
	law   impl.GateLaw
	first impl.GateBook
	world impl.GateWorld
}

func newPlay() *play {
	first := saidSessionBook()
	return &play{law: saidSessionLaw(), first: first, world: impl.GateWorld{Book: first, Doors: doorsOf(first, "d1", "d2")}}
}

// form is a line of the table, or an ACT: its pattern, and what it does with the words that the pattern tells.
type form[T any] struct {
	pattern *regexp.Regexp
	does    func(p *play, w []string) T
}

// formOf reads W as any word, N as a decimal, D as a door, K as one of the three kinds, V as digits, A as WHO and ACT, F as words behind.
func formOf[T any](text string, does func(p *play, w []string) T) form[T] {
	patterns := strings.NewReplacer("W", `([^ ]+)`, "N", `(0|[1-9][0-9]{0,6})`, "D", `(d1|d2)`, "K", `(berth|job|vol)`, "V", `([0-9]+)`, " A", `( [^ ]+ .+)`, " F", `((?: [^ ]+)*)`)
	return form[T]{regexp.MustCompile(`(?s)^` + patterns.Replace(text) + `$`), does}
}

// eventForm is a line that is an event; what stands in the places of words is told by their letters.
func eventForm(text string, kind int, read func(e *impl.GateEvent, w []string)) form[string] {
	return formOf(text, func(p *play, w []string) string {
		e := impl.GateEvent{Kind: kind}
		read(&e, w)
		return p.step(e)
	})
}

var lineForms = []form[string]{
	formOf("ask D A", func(p *play, w []string) string {
		a := p.askOf(w[1][1:])
		if a == nil {
			return "bad"
		}
		return p.step(impl.GateEvent{Kind: 2, Door: doorAt(w[0]), Ask: *a})
	}),
	formOf("pass D A", func(p *play, w []string) string {
		a := p.askOf(w[1][1:])
		if a == nil {
			return "bad"
		}
		book, said := impl.GatePass(p.law, p.world.Book, w[0], *a)
		if said.Code == 0 {
			p.world.Book = book
		}
		return saidLine(said)
	}),
	eventForm("commit D N", 3, func(e *impl.GateEvent, w []string) { e.Door, e.At = doorAt(w[0]), numberAt(w[1]) }),
	eventForm("lose D N", 4, func(e *impl.GateEvent, w []string) { e.Door, e.At = doorAt(w[0]), numberAt(w[1]) }),
	eventForm("look D", 1, func(e *impl.GateEvent, w []string) { e.Door = doorAt(w[0]) }),
	eventForm("die D", 8, func(e *impl.GateEvent, w []string) { e.Door = doorAt(w[0]) }),
	eventForm("rise D", 9, func(e *impl.GateEvent, w []string) { e.Door = doorAt(w[0]) }),
	eventForm("tick", 7, func(e *impl.GateEvent, w []string) {}),
	eventForm("sweep", 10, func(e *impl.GateEvent, w []string) {}),
	eventForm("draw D W W N", 5, func(e *impl.GateEvent, w []string) {
		e.Door, e.Team, e.Resource, e.Amount = doorAt(w[0]), w[1], w[2], numberAt(w[3])
	}),
	eventForm("back D W W", 6, func(e *impl.GateEvent, w []string) { e.Door, e.Team, e.Resource = doorAt(w[0]), w[1], w[2] }),
	eventForm("bound W W N", 11, func(e *impl.GateEvent, w []string) { e.Team, e.Resource, e.Amount = w[0], w[1], numberAt(w[2]) }),
	formOf("show W W", func(p *play, w []string) string { return p.shown(w[0], w[1]) }),
	formOf("books", func(p *play, w []string) string { return p.books() }),
	formOf("doomed", func(p *play, w []string) string {
		places := impl.GateDoomed(p.law, p.world.Book)
		answer := fmt.Sprint(len(places))
		for _, i := range places {
			answer += fmt.Sprintf(" %s/%s", p.world.Book.Objects[i].Kind, p.world.Book.Objects[i].Name)
		}
		return answer
	}),
	formOf("may W N W W W", func(p *play, w []string) string {
		return yes(impl.GateMay(p.law, p.world.Book, w[0], impl.GateAct{Verb: numberAt(w[1]), Kind: w[2], Team: w[3], Name: w[4]}))
	}),
	formOf("safe", func(p *play, w []string) string { return yes(impl.GateSafe(p.law, p.first, p.world)) }),
}

var actForms = []form[*impl.GateAsk]{
	formOf("make K W W F", func(p *play, w []string) *impl.GateAsk {
		a := &impl.GateAsk{Verb: 1, Kind: w[0], Name: w[1], Team: w[2], Values: make([]string, len(fieldNames(w[0])))}
		for _, word := range strings.Split(w[3], " ")[1:] {
			if word[0] == '+' {
				a.Holds = append(a.Holds, word[1:])
			} else if !putValue(a, word) {
				return nil
			}
		}
		return a
	}),
	formOf("change K W N F", func(p *play, w []string) *impl.GateAsk {
		a := &impl.GateAsk{Verb: 2, Kind: w[0], Name: w[1], Seen: numberAt(w[2]), Values: make([]string, len(fieldNames(w[0])))}
		for _, word := range strings.Split(w[3], " ")[1:] {
			if !putValue(a, word) {
				return nil
			}
		}
		return a
	}),
	formOf("end K W N", func(p *play, w []string) *impl.GateAsk {
		return &impl.GateAsk{Verb: 3, Kind: w[0], Name: w[1], Seen: numberAt(w[2])}
	}),
	formOf("letgo K W W", func(p *play, w []string) *impl.GateAsk {
		return &impl.GateAsk{Verb: 4, Kind: w[0], Name: w[1], Hold: w[2]}
	}),
	formOf("give W V W W W", func(p *play, w []string) *impl.GateAsk {
		for i := 2; i < 5; i++ {
			if w[i] == "-" {
				w[i] = ""
			}
		}
		a := &impl.GateAsk{Verb: 5, To: w[0], Rule: impl.GateRule{Kind: w[2], Team: w[3], Prefix: w[4]}}
		for _, digit := range w[1] {
			a.Rule.Verbs = append(a.Rule.Verbs, numberAt(string(digit)))
		}
		return a
	}),
	formOf("take N", func(p *play, w []string) *impl.GateAsk { return &impl.GateAsk{Verb: 6, Number: numberAt(w[0])} }),
}

func fieldNames(kind string) []string {
	return map[string][]string{"berth": {"room", "zone"}, "job": {"need", "mode", "on", "vol", "of"}, "vol": {"size", "class", "note"}}[kind]
}

func putValue(a *impl.GateAsk, word string) bool {
	at := strings.IndexByte(word, '=')
	if at < 0 {
		return false
	}
	place := slices.Index(fieldNames(a.Kind), word[:at])
	if place >= 0 {
		a.Values[place] = word[at+1:]
	}
	return place >= 0
}

func doorAt(word string) int { return numberAt(word[1:]) - 1 }

func numberAt(word string) int {
	n, err := strconv.Atoi(word)
	if err != nil {
		panic(err)
	}
	return n
}

func saidLine(said impl.GateSaid) string {
	return fmt.Sprintf("code %d place %d version %d", said.Code, said.Place, said.Version)
}

func yes(is bool) string { return map[bool]string{true: "yes", false: "no"}[is] }

// askOf is nil where WHO and ACT are none.
func (p *play) askOf(text string) *impl.GateAsk {
	who, act, _ := strings.Cut(text, " ")
	for _, f := range actForms {
		if w := f.pattern.FindStringSubmatch(act); w != nil {
			a := f.does(p, w[1:])
			if a != nil {
				a.Who = who
			}
			return a
		}
	}
	return nil
}

func (p *play) step(e impl.GateEvent) string {
	world, said := impl.GateStep(p.law, p.world, e)
	p.world = world
	return saidLine(said)
}

func (p *play) shown(kind, name string) string {
	for _, o := range p.world.Book.Objects {
		if o.Kind != kind || o.Name != name {
			continue
		}
		answer := fmt.Sprintf("%s %d", o.Team, o.Version)
		if o.Ending {
			answer += " ending"
		}
		for i, field := range fieldNames(kind) {
			if o.Values[i] != "" {
				answer += fmt.Sprintf(" %s=%s", field, o.Values[i])
			}
		}
		for _, hold := range o.Holds {
			answer += " +" + hold
		}
		return answer
	}
	return "none"
}

func (p *play) books() string {
	var each []string
	for _, g := range p.world.Book.Ledgers {
		out := 0
		for _, purse := range p.world.Book.Purses {
			if purse.Team == g.Team && purse.Resource == g.Resource {
				out += purse.Amount
			}
		}
		each = append(each, fmt.Sprintf("%s/%s %d+%d+%d=%d", g.Team, g.Resource, saidUsed(p.law, p.world.Book, g.Team, g.Resource), out, g.Free, g.Most))
	}
	if each == nil {
		return "none"
	}
	return strings.Join(each, "; ")
}

// answer plays a line.
func (p *play) answer(line string) string {
	for _, f := range lineForms {
		if w := f.pattern.FindStringSubmatch(line); w != nil {
			return f.does(p, w[1:])
		}
	}
	return "bad"
}

// playedText is the answer to a whole text.
func playedText(text string) string {
	lines := strings.Split(text, "\n")
	if lines[len(lines)-1] == "" {
		lines = lines[:len(lines)-1]
	}
	if len(text) > 20000 || len(lines) > 300 {
		return "too long\n"
	}
	p, answers := newPlay(), ""
	for _, line := range lines {
		answers += p.answer(line) + "\n"
	}
	return answers
}

// sessionNames are few, so that lines meet what others made.
func (c chance) sessionName() string {
	return []string{"b1", "b2", "b3", "c1", "c2", "c3"}[c.Intn(6)]
}

func (c chance) sessionTeam() string { return c.pick("dev", "dev", "lab", "lab", "ops") }

func (c chance) sessionResource() string {
	return c.pick("need", "need", "room", "disk", "job", "berth", "vol")
}

func (c chance) sessionWho() string {
	return c.pick("ann", "ann", "ann", "ann", "ann", "ann", "bob", "bob", "cy", "dan")
}

// pick is one of some texts, of which none is odd.
func (c chance) pick(from ...string) string { return from[c.Intn(len(from))] }

// sessionObject is mostly one of the book's.
func (c chance) sessionObject(b impl.GateBook) impl.GateObject {
	if len(b.Objects) > 0 && !c.oneIn(12) {
		return b.Objects[c.Intn(len(b.Objects))]
	}
	kind := c.pick("berth", "job", "vol")
	return impl.GateObject{Kind: kind, Name: c.sessionName(), Values: make([]string, len(fieldNames(kind)))}
}

// linkTo is a name, mostly of an object of the kind, or none.
func (c chance) linkTo(b impl.GateBook, kind string) string {
	var names []string
	for _, o := range b.Objects {
		if o.Kind == kind {
			names = append(names, o.Name)
		}
	}
	if c.oneIn(10) || len(names) == 0 {
		return c.pick("", "", "", c.sessionName())
	}
	return names[c.Intn(len(names))]
}

// sessionValues is words FIELD=VALUE of a kind; old is what an object has, where there is one.
func (c chance) sessionValues(b impl.GateBook, kind string, old []string) []string {
	drawn := map[string]string{
		"room": fmt.Sprint(1 + c.Intn(12)), "zone": c.pick("a", "b", "c"), "need": fmt.Sprint(1 + min(c.Intn(30), c.Intn(30))), "mode": c.pick("big", "small"),
		"on": c.linkTo(b, "berth"), "vol": c.linkTo(b, "vol"), "of": c.linkTo(b, "job"), "size": fmt.Sprint(1 + c.Intn(9)), "class": c.pick("fast", "slow"), "note": c.pick("x", "a=b", "~"),
	}
	var out []string
	for i, field := range fieldNames(kind) {
		value := drawn[field]
		if old != nil && !c.oneIn(3) {
			value = old[i]
		}
		if (old == nil && !c.oneIn(3) || value != "" && old != nil) || field == "room" || field == "size" {
			out = append(out, field+"="+value)
		}
	}
	if c.oneIn(10) {
		out = append(out, c.pick("need=99", "need=99", "room=0", "size=x", "zone=", "note=\xff", "of=none", "of=c3", "class=fast", "on=b1", "room=7"))
	}
	return out
}

// sessionAct draws an ACT that mostly passes by a book.
func (c chance) sessionAct(b impl.GateBook) string {
	words := []string{c.pick("make", "make", "make", "change", "change", "end", "letgo", "letgo", "give", "give", "take")}
	o := c.sessionObject(b)
	version := fmt.Sprint(c.pick("0", "0", "1", fmt.Sprint(o.Version), fmt.Sprint(o.Version)))
	switch words[0] {
	case "make":
		kind := c.pick("berth", "job", "job", "vol")
		words = append(words, kind, c.sessionName(), c.sessionTeam())
		words = append(words, c.sessionValues(b, kind, nil)...)
		for _, hold := range []string{"+h", "+k"} {
			if c.oneIn(5) {
				words = append(words, hold)
			}
		}
	case "change":
		words = append(append(words, o.Kind, o.Name, version), c.sessionValues(b, o.Kind, o.Values)...)
	case "end":
		words = append(words, o.Kind, o.Name, version)
	case "letgo":
		words = append(words, o.Kind, o.Name, c.pick(append(o.Holds, "h")...))
	case "give":
		words = append(words, c.pick("cy", "dan", "bob"), c.pick("1", "12", "15", "1234", "345", "5", "135", "12345", "21"), c.pick("-", "job", "berth"), c.pick("-", "dev", "lab"), c.pick("-", "b", "b", "c", "bb"))
	case "take":
		// The first right is seldom taken, as little is done without it.
		number := 2 + c.Intn(20)
		if len(b.Grants) > 1 {
			number = b.Grants[1+c.Intn(len(b.Grants)-1)].Number
		}
		if c.oneIn(100) {
			number = 1
		}
		words = append(words, fmt.Sprint(number))
	}
	return strings.Join(words, " ")
}

// sessionLine draws a line that is not bad.
func (c chance) sessionLine(p *play) string {
	d := c.Intn(2)
	door := []string{"d1", "d2"}[d]
	if !p.world.Doors[d].Up && c.oneIn(3) {
		return "rise " + door
	}
	slips := len(p.world.Doors[d].Slips)
	slip := fmt.Sprint(min(c.Intn(slips+1), c.Intn(slips+1)))
	account := c.sessionTeam() + " " + c.sessionResource()
	if n := len(p.world.Book.Ledgers); n > 0 && !c.oneIn(5) {
		g := p.world.Book.Ledgers[c.Intn(n)]
		account = g.Team + " " + g.Resource
	}
	kind := c.Intn(32)
	if slips == 0 && kind >= 13 && kind <= 16 && !c.oneIn(4) {
		kind = 8
	}
	switch kind {
	case 0, 1, 2, 3, 4, 5, 6, 7:
		return "pass " + door + " " + c.sessionWho() + " " + c.sessionAct(p.world.Book)
	case 8, 9, 10, 11, 12:
		return "ask " + door + " " + c.sessionWho() + " " + c.sessionAct(p.world.Doors[d].View)
	case 13, 14, 15:
		return "commit " + door + " " + slip
	case 16:
		return "lose " + door + " " + slip
	case 17, 18:
		return "look " + door
	case 19:
		return c.pick("die ", "die ", "rise ", "rise ", "rise ") + door
	case 20:
		return "tick"
	case 21:
		return "sweep"
	case 22, 23:
		return fmt.Sprintf("draw %s %s %d", door, account, c.Intn(12))
	case 24:
		return "back " + door + " " + account
	case 25:
		return fmt.Sprintf("bound %s %d", c.pick(account, c.sessionTeam()+" "+c.sessionResource()), c.Intn(60))
	case 26, 27:
		o := c.sessionObject(p.world.Book)
		return "show " + o.Kind + " " + o.Name
	case 28:
		return "books"
	case 29:
		return "doomed"
	case 30:
		return fmt.Sprintf("may %s %d %s %s %s", c.sessionWho(), c.Intn(7), c.pick("job", "vol", "x"), c.sessionTeam(), c.sessionName())
	}
	return "safe"
}

// spoiledLine turns something of a line, which may be bad then or not.
func (c chance) spoiledLine(line string) string {
	words := strings.Split(line, " ")
	i := c.Intn(len(words))
	odd := c.pick("", "-", "+", "=", "0", "00", "7", "x", "X", "\xff", "\t", "d1", "d3", "ann", "job", "need=3", "+h", "on=b1", "12345678", "tick", "berth")
	switch c.Intn(6) {
	case 0:
		words[i] = odd
	case 1:
		words = slices.Insert(words, i, odd)
	case 2:
		words = slices.Delete(words, i, i+1)
	case 3:
		words = append(words, odd)
	case 4:
		j := c.Intn(len(words))
		words[i], words[j] = words[j], words[i]
	default:
		bytes := []byte(line)
		bytes[c.Intn(len(bytes))] = byte(c.Intn(256))
		return strings.ReplaceAll(string(bytes), "\n", "?")
	}
	return strings.Join(words, " ")
}

// drawnSession is lines and the answers that the document's words give them; one in so many lines is spoiled.
func (c chance) drawnSession(size, spoiled int) (lines, answers []string) {
	return c.sessionOf(size, func(p *play) string {
		line := c.sessionLine(p)
		if c.oneIn(spoiled) {
			return c.spoiledLine(line)
		}
		return line
	})
}

// busySession begins with much that is made, has many ends, and no bad lines.
func (c chance) busySession(size int) (lines, answers []string) {
	made := 0
	return c.sessionOf(size, func(p *play) string {
		if made++; made <= 20 {
			kind := c.pick("berth", "vol", "job", "job", "job")
			words := append([]string{"pass", "d1", "ann", "make", kind, c.sessionName(), c.sessionTeam()}, c.sessionValues(p.world.Book, kind, nil)...)
			return strings.Join(words, " ")
		}
		if o := c.sessionObject(p.world.Book); c.oneIn(8) {
			return fmt.Sprintf("pass d2 ann end %s %s 0", o.Kind, o.Name)
		}
		return c.sessionLine(p)
	})
}

func (c chance) sessionOf(size int, next func(p *play) string) (lines, answers []string) {
	p, bytes := newPlay(), 0
	for len(lines) < size {
		line := next(p)
		if bytes += len(line) + 1; bytes > impl.GateMaxSession {
			break
		}
		lines, answers = append(lines, line), append(answers, p.answer(line))
	}
	return lines, answers
}

// countLine tells what came up: the command, the ACT and the code.
func countLine(line, answer string, seen map[string]int) {
	words := strings.Split(line, " ")
	what := words[0]
	if (what == "ask" || what == "pass") && len(words) > 3 {
		what += " " + words[3]
	}
	if code, found := strings.CutPrefix(answer, "code "); found {
		answer = strings.Split(code, " ")[0]
	} else if answer != "none" && answer != "bad" && answer != "yes" && answer != "no" {
		answer = "told"
	}
	seen[what+": "+answer]++
}

// Long drawn sessions, each line held against the calls that it names.
func TestSessionsAsSaid(t *testing.T) {
	t.Parallel()
	c := chance{rand.New(rand.NewSource(21))}
	seen := map[string]int{}
	for round := range 300 {
		lines, want := c.drawnSession([]int{300, 40, 150}[round%3], 15)
		for i, got := range answersTo(t, lines) {
			if got != want[i] {
				t.Fatalf("line %d, %q: %q, not %q\n%s", i, lines[i], got, want[i], joined(lines[:i+1]))
			}
			countLine(lines[i], got, seen)
		}
	}
	for _, command := range strings.Fields("commit lose look die rise tick sweep draw back bound") {
		comesUp(t, seen, 50, command+": 0")
	}
	for _, act := range strings.Fields("make change end letgo give take") {
		comesUp(t, seen, 20, "pass "+act+": 0", "ask "+act+": 0", "pass "+act+": 4", "ask "+act+": 4")
	}
	comesUp(t, seen, 20, "commit: 12", "commit: 13", "commit: 10", "lose: 13", "look: 13", "rise: 13", "draw: 2", "draw: 3", "back: 2", "bound: 3", "sweep: 2", "pass make: 3", "pass make: 9", "pass make: 10", "pass change: 5", "pass end: 6", "pass letgo: 11",
		"show: none", "show: told", "books: none", "books: told", "doomed: told", "may: yes", "may: no", "safe: yes", "pass make: bad", "ask make: bad")
	comesUp(t, seen, 5, "die: 13", "pass make: 2", "pass make: 7", "pass change: 8", "pass give: 2", "ask change: 9", "tick: bad", "sweep: bad", "commit: bad", "draw: bad", "may: bad")
}

// Promise 14: with each cut at a line's end, the answers to the first lines are the first answers to the whole; and two calls answer the same.
func TestSessionsBeginAlike(t *testing.T) {
	t.Parallel()
	c := chance{rand.New(rand.NewSource(22))}
	for range 25 {
		lines, _ := c.drawnSession(60, 6)
		text := joined(lines)
		whole := impl.GateSession(text)
		answers := strings.SplitAfter(whole, "\n")
		for cut := range len(lines) + 1 {
			want := strings.Join(answers[:cut], "")
			if got := impl.GateSession(joined(lines[:cut])); got != want {
				t.Fatalf("the first %d lines: %q\nnot %q\nof %s", cut, got, want, text)
			}
			if got := impl.GateSession(strings.TrimSuffix(joined(lines[:cut]), "\n")); cut > 0 && lines[cut-1] != "" && got != want {
				t.Fatalf("the first %d lines, with no newline at the end: %q\nnot %q\nof %s", cut, got, want, text)
			}
		}
		// With other lines behind them too, and with as many as may be.
		others, _ := c.drawnSession(60, 3)
		if got := impl.GateSession(text + joined(others)); !strings.HasPrefix(got, whole) {
			t.Fatalf("with others behind it: %q\nnot %q", got, whole)
		}
		room := impl.GateMaxLines - len(lines)
		if got := impl.GateSession(text + strings.Repeat("\n", room)); got != whole+strings.Repeat("bad\n", room) {
			t.Fatalf("with as many lines as may be: %q\nnot %q", got, whole)
		}
		if got := impl.GateSession(text + strings.Repeat("\n", room+1)); got != "too long\n" {
			t.Fatalf("with one line too many: %q", got)
		}
		if got := impl.GateSession(text + strings.Repeat("x", impl.GateMaxSession-len(text))); got != whole+"bad\n" {
			t.Fatalf("with as many bytes as may be: %q\nnot %q", got, whole)
		}
		if got := impl.GateSession(text + strings.Repeat("x", impl.GateMaxSession-len(text)+1)); got != "too long\n" {
			t.Fatalf("with one byte too many: %q", got)
		}
		if got := impl.GateSession(text); got != whole {
			t.Fatalf("once more: %q\nnot %q", got, whole)
		}
	}
}

// Texts of any bytes at all, and of the words of lines in any order.
func TestSessionsOfAnyText(t *testing.T) {
	t.Parallel()
	c := chance{rand.New(rand.NewSource(23))}
	words := strings.Fields("ask pass commit lose look die rise tick sweep draw back bound show books doomed may safe make change end letgo give take d1 d2 ann bob berth job vol dev lab b1 b2 need room=1 size=1 on=b1 +h - 0 1 12 3 =")
	seen := map[string]int{}
	for range 3000 {
		var text []byte
		for range c.Intn(60) {
			switch c.Intn(8) {
			case 0:
				text = append(text, byte(c.Intn(256)))
			case 1, 2:
				text = append(text, '\n')
			default:
				text = append(append(text, words[c.Intn(len(words))]...), ' ')
			}
		}
		if c.oneIn(2) {
			text = regexp.MustCompile(` \n`).ReplaceAll(text, []byte("\n"))
		}
		got, want := impl.GateSession(string(text)), playedText(string(text))
		if got != want {
			t.Fatalf("%q: %q\nnot %q", text, got, want)
		}
		for _, answer := range strings.Fields(got) {
			seen[answer]++
		}
	}
	comesUp(t, seen, 50, "bad", "code", "none")
}
