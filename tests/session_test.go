package tests

import (
	"fmt"
	"regexp"
	"slices"
	"strings"
	"testing"

	"loop.example/wharfgate/impl"
)

// threeNumbers stands in a script for what was said.
var threeNumbers = regexp.MustCompile(`^(\d+) (\d+) (\d+)$`)

// scriptOf reads "LINE -> ANSWER", a line each; CODE PLACE VERSION stands for the words of what was said.
func scriptOf(script string) (lines, answers []string) {
	for row := range strings.Lines(script) {
		row = strings.TrimSpace(row)
		if row == "" {
			continue
		}
		line, answer, found := strings.Cut(row, " -> ")
		if !found {
			panic(row)
		}
		lines = append(lines, line)
		answers = append(answers, threeNumbers.ReplaceAllString(answer, "code $1 place $2 version $3"))
	}
	return lines, answers
}

// joined is lines as a text, each with its newline.
func joined(lines []string) string {
	return strings.Join(lines, "\n") + strings.Repeat("\n", min(1, len(lines)))
}

// answersTo plays lines, and asks for one answer each.
func answersTo(t *testing.T, lines []string) []string {
	t.Helper()
	text := impl.GateSession(joined(lines))
	answers := strings.Split(text, "\n")
	if len(answers) != len(lines)+1 || answers[len(lines)] != "" {
		t.Fatalf("%d lines are answered with %q", len(lines), text)
	}
	return answers[:len(lines)]
}

// tryScript plays a script as one session.
func tryScript(t *testing.T, script string) {
	t.Helper()
	lines, want := scriptOf(script)
	for i, got := range answersTo(t, lines) {
		if got != want[i] {
			t.Errorf("line %d, %s: %s, not %s", i, lines[i], got, want[i])
		}
	}
}

// The document's example, and each session that is the beginning of it.
func TestSessionExample(t *testing.T) {
	const example = `
		bound dev need 20 -> code 0 place 0 version 0
		draw d1 dev need 12 -> code 0 place 0 version 0
		pass d1 ann make berth b1 dev room=8 +keeper -> code 0 place 0 version 3
		pass d1 ann make job j1 dev need=3 on=b1 -> code 0 place 0 version 4
		pass d1 bob make job b2 lab mode=big on=b1 of=j1 -> code 0 place 0 version 5
		pass d1 bob make vol b3 lab size=5 class=fast -> code 0 place 0 version 6
		pass d1 bob make job x lab -> code 4 place 0 version 0
		pass d1 ann change job j1 4 need=3 on=b1 vol=b3 -> code 0 place 0 version 7
		books -> dev/need 11+1+8=20
		ask d2 ann change job j1 0 need=9 -> code 3 place 0 version 0
		look d2 -> code 0 place 0 version 0
		ask d2 ann end job j1 0 -> code 0 place 0 version 0
		ask d2 ann change job j1 0 need=9 -> code 0 place 0 version 0
		commit d2 0 -> code 0 place 0 version 8
		commit d2 0 -> code 12 place 1 version 0
		pass d1 ann end vol b3 0 -> code 0 place 0 version 9
		pass d1 ann end berth b1 0 -> code 0 place 0 version 10
		doomed -> 3 job/b2 job/j1 vol/b3
		sweep -> code 0 place 0 version 0
		show job b2 -> none
		sweep -> code 2 place 0 version 0
		show berth b1 -> dev 10 ending room=8 zone=a +keeper
		pass d1 ann letgo berth b1 keeper -> code 0 place 0 version 12
		sweep -> code 0 place 0 version 0
		sweep -> code 2 place 0 version 0
		books -> dev/need 0+1+19=20
		pass d1 ann give cy 15 - lab c -> code 0 place 0 version 13
		pass d1 cy give bob 1 job lab cc -> code 0 place 0 version 14
		pass d1 cy give bob 2 job lab cc -> code 4 place 0 version 0
		may bob 1 job lab cc1 -> yes
		safe -> yes
	`
	tryScript(t, example)
	lines, want := scriptOf(example)
	for cut := range lines {
		if got := impl.GateSession(joined(lines[:cut])); got != joined(want[:cut]) {
			t.Errorf("the first %d lines: %q", cut, got)
		}
		if got := impl.GateSession(strings.TrimSuffix(joined(lines[:cut]), "\n")); got != joined(want[:cut]) {
			t.Errorf("the first %d lines, with no newline at the end: %q", cut, got)
		}
	}
}

// The two grants with which a session begins, and that there is nothing else.
func TestSessionBegins(t *testing.T) {
	tryScript(t, `
		books -> none
		doomed -> 0
		safe -> yes
		sweep -> 2 0 0
		show berth b1 -> none
		may ann 1 job dev b -> yes
		may ann 2 berth lab x -> yes
		may ann 3 vol ops x -> yes
		may ann 4 any any any -> yes
		may ann 5 K T N -> yes
		may ann 0 job dev b -> no
		may ann 6 job dev b -> no
		may ann 9999999 job dev b -> no
		may bob 1 job dev b -> yes
		may bob 2 berth lab b1 -> yes
		may bob 3 none dev b-x -> yes
		may bob 4 vol lab bB -> yes
		may bob 5 job dev b -> no
		may bob 0 job dev b -> no
		may bob 1 job ops b -> no
		may bob 1 job none b -> no
		may bob 1 job dev a -> no
		may bob 1 job dev ab -> no
		may cy 1 job dev b -> no
		may d1 1 job dev b -> no
		may a 1 job dev b -> no
		may annn 1 job dev b -> no
		pass d1 ann take 3 -> 3 0 0
		pass d1 bob take 1 -> 4 0 0
		pass d1 bob take 2 -> 4 0 0
		pass d1 cy take 2 -> 4 0 0
		pass d1 ann take 2 -> 0 0 3
		may bob 1 job dev b -> no
		pass d1 ann take 2 -> 3 0 0
		pass d1 ann take 1 -> 0 0 4
		may ann 1 job dev b -> no
		pass d1 ann take 1 -> 3 0 0
		safe -> yes
	`)
	// The first grants are by nobody.
	tryScript(t, `
		pass d1 ann take 1 -> 0 0 3
		pass d1 ann take 2 -> 4 0 0
		pass d1 ann make berth b1 dev room=1 -> 4 0 0
		pass d1 bob make berth b1 dev room=1 -> 0 0 4
		safe -> yes
	`)
	// The views of both doors are that book: they see its grants, and none of what came behind it.
	tryScript(t, `
		rise d1 -> 13 0 0
		rise d2 -> 13 0 0
		pass d1 ann make berth b1 dev room=8 -> 0 0 3
		pass d2 ann give cy 1 - - - -> 0 0 4
		pass d2 ann take 2 -> 0 0 5
		ask d1 ann end berth b1 0 -> 3 0 0
		ask d2 ann end berth b1 0 -> 3 0 0
		ask d1 cy make berth b2 dev room=1 -> 4 0 0
		ask d2 ann take 4 -> 3 0 0
		ask d1 ann take 3 -> 3 0 0
		ask d2 ann take 2 -> 0 0 0
		ask d1 bob make berth b2 dev room=1 -> 0 0 0
		ask d2 bob make berth c2 dev room=1 -> 4 0 0
		commit d1 0 -> 12 0 0
		commit d2 0 -> 12 0 0
		look d1 -> 0 0 0
		ask d1 ann end berth b1 0 -> 0 0 0
		ask d2 ann end berth b1 0 -> 3 0 0
		ask d1 bob make berth b2 dev room=1 -> 4 0 0
	`)
}

func TestSessionShapeOfBerths(t *testing.T) {
	tryScript(t, `
		pass d1 ann make berth b1 dev -> 7 0 0
		pass d1 ann make berth b1 dev zone=b -> 7 0 0
		pass d1 ann make berth b1 dev room=0 -> 7 0 0
		pass d1 ann make berth b1 dev room=65 -> 7 0 0
		pass d1 ann make berth b1 dev room=x -> 7 0 0
		pass d1 ann make berth b1 dev room=1 zone=d -> 7 1 0
		pass d1 ann make berth b1 dev room=1 zone=ab -> 7 1 0
		pass d1 ann make berth b1 dev room=1 -> 0 0 3
		show berth b1 -> dev 3 room=1 zone=a
		pass d1 ann make berth b2 lab room=64 zone=b -> 0 0 4
		show berth b2 -> lab 4 room=64 zone=b
		pass d1 ann make berth b3 ops zone=c -> 0 0 5
		show berth b3 -> ops 5 room=4 zone=c
		pass d1 ann make berth b4 ops zone=c room=99 -> 0 0 6
		show berth b4 -> ops 6 room=4 zone=c
		pass d1 ann change berth b1 0 room=7 zone=b -> 0 0 7
		show berth b1 -> dev 7 room=7 zone=b
		pass d1 ann change berth b1 0 room=7 -> 0 0 8
		show berth b1 -> dev 8 room=7 zone=a
		pass d1 ann change berth b1 0 zone=b -> 7 0 0
		pass d1 ann change berth b1 0 zone=c -> 0 0 9
		show berth b1 -> dev 9 room=4 zone=c
		bound dev room 100 -> 0 0 0
		bound dev berth 9 -> 0 0 0
		bound lab room 64 -> 0 0 0
		bound ops room 7 -> 3 0 0
		bound ops room 8 -> 0 0 0
		bound dev need 5 -> 0 0 0
		books -> dev/berth 2+0+7=9; dev/need 0+0+5=5; dev/room 68+0+32=100; lab/room 64+0+0=64; ops/room 8+0+0=8
	`)
}

func TestSessionShapeOfJobs(t *testing.T) {
	tryScript(t, `
		pass d1 ann make berth b1 dev room=1 -> 0 0 3
		pass d1 ann make vol v1 dev size=1 -> 0 0 4
		pass d1 ann make job j1 dev -> 0 0 5
		show job j1 -> dev 5 need=1
		pass d1 ann make job j2 dev need=0 -> 7 0 0
		pass d1 ann make job j2 dev need=33 -> 7 0 0
		pass d1 ann make job j2 dev mode=tiny -> 7 1 0
		pass d1 ann make job j2 dev on=B1 -> 7 2 0
		pass d1 ann make job j2 dev vol=V1 -> 7 3 0
		pass d1 ann make job j2 dev of=J1 -> 7 4 0
		pass d1 ann make job j2 dev on=v1 -> 9 2 0
		pass d1 ann make job j2 dev vol=b1 -> 9 3 0
		pass d1 ann make job j2 dev of=b1 -> 9 4 0
		pass d1 ann make job j2 lab need=32 mode=small on=b1 vol=v1 of=j1 -> 0 0 6
		show job j2 -> lab 6 need=32 mode=small on=b1 vol=v1 of=j1
		pass d1 ann make job j3 ops need=2 mode=big -> 0 0 7
		show job j3 -> ops 7 need=8 mode=big
		pass d1 ann change job j3 0 need=2 mode=small -> 0 0 8
		show job j3 -> ops 8 need=2 mode=small
		pass d1 ann change job j3 0 on=b1 vol=v1 of=j2 -> 0 0 9
		show job j3 -> ops 9 need=1 on=b1 vol=v1 of=j2
		pass d1 ann change job j3 0 of=j1 -> 0 0 10
		show job j3 -> ops 10 need=1 of=j1
		bound dev need 40 -> 0 0 0
		bound lab need 32 -> 0 0 0
		bound ops job 1 -> 0 0 0
		books -> dev/need 33+0+7=40; lab/need 32+0+0=32; ops/job 1+0+0=1
	`)
	// on holds, vol leans, of owns.
	tryScript(t, `
		pass d1 ann make berth b1 dev room=1 -> 0 0 3
		pass d1 ann make vol v1 dev size=1 -> 0 0 4
		pass d1 ann make job j1 dev on=b1 vol=v1 -> 0 0 5
		pass d1 ann make job j2 dev of=j1 -> 0 0 6
		pass d1 ann end berth b1 3 -> 0 0 7
		doomed -> 0
		sweep -> 2 0 0
		show berth b1 -> dev 7 ending room=1 zone=a
		pass d1 ann end vol v1 4 -> 0 0 8
		doomed -> 1 vol/v1
		sweep -> 0 0 0
		show vol v1 -> none
		show job j1 -> dev 9 need=1 on=b1
		pass d1 ann end job j1 8 -> 5 0 9
		pass d1 ann end job j1 9 -> 0 0 10
		doomed -> 3 berth/b1 job/j1 job/j2
		show job j2 -> dev 6 need=1 of=j1
		sweep -> 0 0 0
		doomed -> 0
		show job j2 -> none
		sweep -> 2 0 0
	`)
}

func TestSessionShapeOfVols(t *testing.T) {
	tryScript(t, `
		pass d1 ann make vol v1 dev -> 7 0 0
		pass d1 ann make vol v1 dev size=0 -> 7 0 0
		pass d1 ann make vol v1 dev size=101 -> 7 0 0
		pass d1 ann make vol v1 dev size=1 class=medium -> 7 1 0
		pass d1 ann make vol v1 dev size=1 note=123456789012345678901 -> 7 2 0
		pass d1 ann make vol v1 dev size=1 note=12345678901234567890 -> 0 0 3
		show vol v1 -> dev 3 size=1 note=12345678901234567890
		pass d1 ann make vol v2 lab size=100 class=fast -> 0 0 4
		show vol v2 -> lab 4 size=100 class=fast note=fast
		pass d1 ann make vol v3 ops size=5 class=fast note=other -> 0 0 5
		show vol v3 -> ops 5 size=5 class=fast note=fast
		pass d1 ann make vol v4 ops size=5 class=slow -> 0 0 6
		show vol v4 -> ops 6 size=5 class=slow
		pass d1 ann change vol v4 0 size=6 class=slow -> 8 0 0
		pass d1 ann change vol v4 0 class=slow -> 7 0 0
		pass d1 ann change vol v4 0 size=5 class=fast note=x -> 0 0 7
		show vol v4 -> ops 7 size=5 class=fast note=fast
		pass d1 ann change vol v4 0 size=5 note=~! -> 0 0 8
		show vol v4 -> ops 8 size=5 note=~!
		bound dev disk 200 -> 0 0 0
		bound lab vol 3 -> 0 0 0
		bound ops disk 10 -> 0 0 0
		bound ops size 3 -> 0 0 0
		books -> dev/disk 101+0+99=200; lab/vol 1+0+2=3; ops/disk 10+0+0=10; ops/size 0+0+3=3
	`)
}

func TestSessionTeams(t *testing.T) {
	tryScript(t, `
		pass d1 ann make job j1 none -> 2 0 0
		pass d1 ann make job j1 DEV -> 2 0 0
		pass d1 ann make job j1 dev need=2 -> 0 0 3
		pass d1 ann make job j2 lab need=3 -> 0 0 4
		pass d1 ann make job j3 ops need=5 -> 0 0 5
		bound none need 9 -> 2 0 0
		bound - need 9 -> 2 0 0
		bound dev need 9 -> 0 0 0
		bound lab need 9 -> 0 0 0
		bound ops need 9 -> 0 0 0
		books -> dev/need 5+0+4=9; lab/need 3+0+6=9; ops/need 5+0+4=9
		pass d1 ann give cy 1 - dev - -> 0 0 6
		pass d1 ann give dan 1 - lab - -> 0 0 7
		may cy 1 job lab x -> yes
		may cy 1 job dev x -> yes
		may cy 1 job ops x -> no
		may dan 1 job lab x -> yes
		may dan 1 job dev x -> no
	`)
}

// Slips: what is asked of a late view, and brought behind other things.
func TestSessionSlips(t *testing.T) {
	tryScript(t, `
		ask d1 ann make berth b1 dev room=8 +h +k -> 0 0 0
		show berth b1 -> none
		commit d1 1 -> 13 0 0
		commit d2 0 -> 13 0 0
		lose d2 0 -> 13 0 0
		commit d1 0 -> 0 0 3
		commit d1 0 -> 13 0 0
		show berth b1 -> dev 3 room=8 zone=a +h +k
		look d1 -> 0 0 0
		ask d1 ann end berth b1 2 -> 5 0 3
		ask d1 ann end berth b1 3 -> 0 0 0
		ask d1 ann letgo berth b1 h -> 0 0 0
		ask d1 ann change berth b1 0 room=9 -> 0 0 0
		ask d1 ann give cy 1 - - - -> 0 0 0
		ask d1 ann take 2 -> 0 0 0
		ask d1 ann make vol v1 lab size=1 -> 0 0 0
		ask d1 ann make vol v1 lab size=1 -> 13 0 0
		ask d1 BAD take 0 -> 13 0 0
		lose d1 6 -> 13 0 0
		lose d1 5 -> 0 0 0
		lose d1 5 -> 13 0 0
		commit d1 1 -> 0 0 4
		show berth b1 -> dev 4 room=8 zone=a +k
		commit d1 0 -> 12 1 0
		commit d1 0 -> 12 1 0
		commit d1 1 -> 0 0 5
		may bob 1 job dev b -> no
		commit d1 0 -> 12 0 0
		may cy 1 job dev b -> no
		commit d1 0 -> 13 0 0
	`)
	// A view does not look for what a purse has; the book does, and tells the ledger.
	tryScript(t, `
		bound dev disk 5 -> 0 0 0
		bound dev need 5 -> 0 0 0
		draw d2 dev need 2 -> 0 0 0
		ask d1 ann make job j1 dev need=2 -> 0 0 0
		ask d2 ann make job j1 lab need=2 -> 0 0 0
		ask d2 ann make job j2 dev of=j1 -> 9 4 0
		commit d1 0 -> 10 1 0
		commit d2 0 -> 0 0 3
		ask d1 ann make job j1 dev need=2 -> 0 0 0
		commit d1 0 -> 12 1 0
		books -> dev/disk 0+0+5=5; dev/need 2+0+3=5
	`)
	// Wants of links are counted behind the object's own.
	tryScript(t, `
		pass d1 ann make berth b1 dev room=8 -> 0 0 3
		pass d1 ann make vol v1 dev size=8 -> 0 0 4
		look d1 -> 0 0 0
		look d2 -> 0 0 0
		ask d1 ann make job j1 dev on=b1 vol=v1 -> 0 0 0
		ask d2 ann make job j1 dev on=b1 vol=v1 -> 0 0 0
		pass d1 ann change vol v1 0 size=8 note=x -> 0 0 5
		commit d1 0 -> 12 3 0
		pass d1 ann change berth b1 0 room=9 -> 0 0 6
		commit d2 0 -> 12 2 0
	`)
}

// Purses, ledgers and ticks.
func TestSessionPurses(t *testing.T) {
	tryScript(t, `
		bound dev need 10 -> 0 0 0
		books -> dev/need 0+0+10=10
		draw d1 dev need 4 -> 0 0 0
		draw d2 dev need 3 -> 0 0 0
		books -> dev/need 0+7+3=10
		draw d1 dev need 4 -> 3 0 0
		draw d1 dev need 0 -> 2 0 0
		draw d1 dev need 1000001 -> 2 0 0
		draw d1 lab need 1 -> 2 0 0
		draw d1 ops need 1 -> 2 0 0
		draw d1 dev room 1 -> 2 0 0
		back d1 dev room -> 2 0 0
		back d1 lab need -> 2 0 0
		back d2 dev need -> 0 0 0
		back d2 dev need -> 2 0 0
		books -> dev/need 0+4+6=10
		bound dev need 3 -> 3 0 0
		bound dev need 4 -> 0 0 0
		books -> dev/need 0+4+0=4
		bound dev need 0 -> 3 0 0
		bound dev NEED 5 -> 2 0 0
		bound dev need 1000001 -> 2 0 0
		bound lab disk 7 -> 0 0 0
		bound ops room 1000000 -> 0 0 0
		books -> dev/need 0+4+0=4; lab/disk 0+0+7=7; ops/room 0+0+1000000=1000000
		pass d1 ann make job j1 lab need=5 -> 10 0 0
		pass d1 ann make job j1 lab need=4 -> 0 0 3
		pass d1 ann make vol v1 lab size=1 -> 10 1 0
		pass d2 ann change job j1 0 need=5 -> 10 0 0
		pass d2 ann change job j1 0 need=1 -> 0 0 4
		books -> dev/need 1+0+3=4; lab/disk 0+0+7=7; ops/room 0+0+1000000=1000000
		bound dev - 3 -> 0 0 0
		draw d2 dev - 2 -> 0 0 0
		books -> dev/- 0+2+1=3; dev/need 1+0+3=4; lab/disk 0+0+7=7; ops/room 0+0+1000000=1000000
	`)
	// Each door spends its own; one resource has a ledger of each team.
	tryScript(t, `
		bound dev need 20 -> 0 0 0
		bound lab need 10 -> 0 0 0
		bound lab job 9 -> 0 0 0
		draw d1 dev need 9 -> 0 0 0
		draw d1 lab need 9 -> 0 0 0
		draw d2 dev need 2 -> 0 0 0
		draw d2 lab need 1 -> 0 0 0
		draw d2 lab job 4 -> 0 0 0
		books -> dev/need 0+11+9=20; lab/job 0+4+5=9; lab/need 0+10+0=10
		pass d2 ann make job j1 dev need=3 -> 10 0 0
		pass d2 ann make job j1 lab need=2 -> 10 2 0
		pass d1 ann make job j1 lab need=1 -> 10 1 0
		pass d2 ann make job j1 lab need=1 -> 0 0 3
		books -> dev/need 1+10+9=20; lab/job 1+3+5=9; lab/need 1+9+0=10
		pass d1 ann change job j1 3 need=9 -> 0 0 4
		books -> dev/need 9+2+9=20; lab/job 1+3+5=9; lab/need 9+1+0=10
		back d1 dev need -> 0 0 0
		back d1 lab need -> 0 0 0
		books -> dev/need 9+1+10=20; lab/job 1+3+5=9; lab/need 9+0+1=10
	`)
	// Two purses of one ledger; a purse lasts ten ticks behind the last draw.
	ticks := func(n int) string { return strings.Repeat("tick -> 0 0 0\n", n) }
	tryScript(t, `
		bound dev need 10 -> 0 0 0
		draw d1 dev need 4 -> 0 0 0
	`+ticks(5)+`
		draw d2 dev need 1 -> 0 0 0
	`+ticks(5)+`
		books -> dev/need 0+5+5=10
		tick -> 0 0 0
		books -> dev/need 0+1+9=10
		draw d2 dev need 2 -> 0 0 0
	`+ticks(10)+`
		books -> dev/need 0+3+7=10
		tick -> 0 0 0
		books -> dev/need 0+0+10=10
	`)
	var many strings.Builder
	for i := range 10 {
		fmt.Fprintf(&many, "bound dev r%d %d -> 0 0 0\n", i, i)
	}
	tryScript(t, many.String()+`
		bound dev more 1 -> 4 0 0
		bound ops r0 1 -> 4 0 0
		bound dev r9 1 -> 0 0 0
		draw d1 dev r9 1 -> 0 0 0
		books -> `+"dev/r0 0+0+0=0; dev/r1 0+0+1=1; dev/r2 0+0+2=2; dev/r3 0+0+3=3; dev/r4 0+0+4=4; dev/r5 0+0+5=5; dev/r6 0+0+6=6; dev/r7 0+0+7=7; dev/r8 0+0+8=8; dev/r9 0+1+0=1\n")
}

// A door that dies: nothing but pass goes through it, and it comes back without its slips.
func TestSessionDeadDoors(t *testing.T) {
	tryScript(t, `
		bound dev need 10 -> 0 0 0
		draw d1 dev need 4 -> 0 0 0
		pass d1 ann make berth b1 dev room=1 -> 0 0 3
		ask d1 ann make job j1 dev -> 0 0 0
		ask d2 ann make vol v1 dev size=1 -> 0 0 0
		die d1 -> 0 0 0
		die d1 -> 13 0 0
		look d1 -> 13 0 0
		ask d1 ann make job j1 dev -> 13 0 0
		commit d1 0 -> 13 0 0
		lose d1 0 -> 13 0 0
		draw d1 dev need 1 -> 13 0 0
		back d1 dev need -> 13 0 0
		books -> dev/need 0+4+6=10
		pass d1 ann make job j1 dev need=5 -> 10 0 0
		pass d1 ann make job j1 dev need=3 on=b1 -> 0 0 4
		books -> dev/need 3+1+6=10
		pass d1 ann change job j1 4 need=1 on=b1 -> 0 0 5
		pass d1 ann end job j1 4 -> 5 0 5
		pass d1 bob end job j1 5 -> 4 0 0
		pass d1 ann give cy 1 - - - -> 0 0 6
		pass d1 ann take 6 -> 0 0 7
		commit d2 0 -> 12 0 0
		rise d1 -> 0 0 0
		rise d1 -> 13 0 0
		commit d1 0 -> 13 0 0
		ask d1 ann end berth b1 0 -> 3 0 0
		look d1 -> 0 0 0
		ask d1 ann end berth b1 0 -> 0 0 0
		commit d1 0 -> 0 0 8
		back d1 dev need -> 0 0 0
		books -> dev/need 1+0+9=10
		die d2 -> 0 0 0
		die d1 -> 0 0 0
		tick -> 0 0 0
		sweep -> 2 0 0
		bound dev need 11 -> 0 0 0
		books -> dev/need 1+0+10=11
		show job j1 -> dev 5 need=1 on=b1
		safe -> yes
		rise d2 -> 0 0 0
		look d1 -> 13 0 0
		look d2 -> 0 0 0
	`)
}

// Each ACT through pass, done and refused with each code that it can have there.
func TestSessionPass(t *testing.T) {
	tryScript(t, `
		pass d1 Ann make berth b1 dev room=1 -> 2 0 0
		pass d1 ann make berth B1 dev room=1 -> 2 0 0
		pass d1 ann make berth b1 dev room=1 +b +a -> 2 0 0
		pass d1 cy make berth b1 dev room=1 -> 4 0 0
		pass d1 bob make berth b1 ops room=1 -> 4 0 0
		pass d1 ann make berth b1 dev room=1 +a +b +c -> 0 0 3
		pass d1 ann make berth b1 dev room=1 -> 3 0 0
		pass d1 bob make berth b2 lab room=2 -> 0 0 4
		pass d1 ann change berth b3 0 room=2 -> 3 0 0
		pass d1 cy change berth b2 0 room=2 -> 4 0 0
		pass d1 ann change berth b2 3 room=2 -> 5 0 4
		pass d1 ann change berth b2 9999999 room=2 -> 5 0 4
		pass d1 ann change berth b2 4 room=65 -> 7 0 0
		pass d1 bob change berth b2 4 room=3 -> 0 0 5
		pass d1 bob change berth b2 4 room=3 -> 5 0 5
		pass d1 ann letgo berth b3 a -> 3 0 0
		pass d1 cy letgo berth b1 a -> 4 0 0
		pass d1 ann letgo berth b1 A -> 2 0 0
		pass d1 ann letgo berth b1 d -> 11 0 0
		pass d1 ann letgo berth b1 b -> 0 0 6
		pass d1 ann letgo berth b1 b -> 11 0 0
		show berth b1 -> dev 6 room=1 zone=a +a +c
		pass d1 ann end berth b3 0 -> 3 0 0
		pass d1 ann end vol b1 0 -> 3 0 0
		pass d1 cy end berth b1 0 -> 4 0 0
		pass d1 ann end berth b1 7 -> 5 0 6
		pass d1 ann end berth b1 6 -> 0 0 7
		pass d1 ann end berth b1 7 -> 6 0 0
		pass d1 ann change berth b1 0 room=2 -> 6 0 0
		pass d1 ann make job j1 dev on=b1 -> 9 2 0
		pass d1 ann letgo berth b1 a -> 0 0 8
		show berth b1 -> dev 8 ending room=1 zone=a +c
		pass d1 ann take 0 -> 2 0 0
		pass d1 ann take 5 -> 3 0 0
		pass d1 ann take 9999999 -> 3 0 0
		pass d1 bob give cy 1 - dev b -> 4 0 0
		pass d1 ann give Cy 1 - dev b -> 2 0 0
		pass d1 ann give cy 15 - dev b -> 0 0 9
		pass d1 cy give dan 1 job dev bb -> 0 0 10
		pass d1 cy give dan 1 job dev a -> 4 0 0
		pass d1 cy give dan 2 job dev bb -> 4 0 0
		pass d1 dan take 10 -> 4 0 0
		pass d1 ann take 9 -> 0 0 11
		pass d1 cy take 10 -> 0 0 12
		pass d1 cy take 10 -> 3 0 0
		safe -> yes
	`)
	var full strings.Builder
	for i := range 40 {
		fmt.Fprintf(&full, "pass d%d ann make job j%d ops -> 0 0 %d\n", 1+i%2, i, 3+i)
	}
	full.WriteString("pass d1 ann make job j40 ops -> 11 0 0\nask d1 ann make job j40 ops -> 0 0 0\ncommit d1 0 -> 11 0 0\nshow job j39 -> ops 42 need=1\nshow job j40 -> none\n")
	for i := range 22 {
		fmt.Fprintf(&full, "pass d1 ann give cy 1 - - p%d -> 0 0 %d\n", i, 43+i)
	}
	tryScript(t, full.String()+`
		pass d1 ann give cy 1 - - p -> 11 0 0
		pass d1 ann take 43 -> 0 0 65
		pass d1 ann give cy 1 - - p -> 0 0 66
		safe -> yes
	`)
}

// The values and holds of ACT.
func TestSessionFields(t *testing.T) {
	tryScript(t, `
		pass d1 ann make vol v1 dev size=1 note=a=b -> 0 0 3
		show vol v1 -> dev 3 size=1 note=a=b
		pass d1 ann make vol v2 dev size=1 note== -> 0 0 4
		show vol v2 -> dev 4 size=1 note==
		pass d1 ann make vol v3 dev size=1 note= class= -> 0 0 5
		show vol v3 -> dev 5 size=1
		pass d1 ann make vol v4 dev size= -> 7 0 0
		pass d1 ann make vol v4 dev size=1 size=2 note=x note=y note=z -> 0 0 6
		show vol v4 -> dev 6 size=2 note=z
		pass d1 ann make vol v5 dev size=1 size= -> 7 0 0
		pass d1 ann make vol v5 dev size= size=3 -> 0 0 7
		pass d1 ann make vol v6 dev note=x class=slow size=9 -> 0 0 8
		show vol v6 -> dev 8 size=9 class=slow note=x
		pass d1 ann make vol v7 dev =1 -> bad
		pass d1 ann make vol v7 dev size=1 = -> bad
		pass d1 ann make vol v7 dev size=1 room=1 -> bad
		pass d1 ann make vol v7 dev size=1 Note=1 -> bad
		pass d1 ann make vol v7 dev size=1 notes=1 -> bad
		pass d1 ann make vol v7 dev size=1 not=1 -> bad
		pass d1 ann make vol v7 dev size -> bad
		pass d1 ann make vol v7 dev size=1 note -> bad
		pass d1 ann make vol v7 dev size=1 note:x -> bad
		pass d1 ann make vol v7 dev size=1 -note=x -> bad
		pass d1 ann make job j1 dev zone=a -> bad
		pass d1 ann make berth b1 dev room=1 need=1 -> bad
		pass d1 ann make vol v7 dev +b size=1 +c note=x +d -> 0 0 9
		show vol v7 -> dev 9 size=1 note=x +b +c +d
		pass d1 ann make vol v8 dev size=1 + -> 2 0 0
		pass d1 ann make vol v8 dev size=1 +a + -> 2 0 0
		pass d1 ann make vol v8 dev size=1 ++ -> 2 0 0
		pass d1 ann make vol v8 dev size=1 +note=x -> 2 0 0
		pass d1 ann make vol v8 dev size=1 +A -> 2 0 0
		pass d1 ann make vol v8 dev size=1 +a +a -> 2 0 0
		pass d1 ann make vol v8 dev size=1 +b +a -> 2 0 0
		pass d1 ann make vol v8 dev size=1 +a +b +c +d -> 2 0 0
		pass d1 ann make vol v8 dev +- size=1 -> 0 0 10
		show vol v8 -> dev 10 size=1 +-
		pass d1 ann change vol v8 0 size=1 +a -> bad
		pass d1 ann change vol v8 0 size=1 + -> bad
		pass d1 ann change vol v8 0 size=1 +note=x -> bad
		pass d1 ann change vol v8 0 + size=1 -> bad
		pass d1 ann change vol v8 0 size=1 =x -> bad
		pass d1 ann change vol v8 0 size=1 need=1 -> bad
		pass d1 ann change vol v8 0 size=1 note -> bad
		pass d1 ann change vol v8 0 size=2 size=1 note=a=b=c -> 0 0 11
		show vol v8 -> dev 11 size=1 note=a=b=c +-
		pass d1 ann change vol v8 11 note=x note= size=1 -> 0 0 12
		show vol v8 -> dev 12 size=1 +-
		pass d1 ann change vol v8 12 -> 7 0 0
	`)
}

// Which words may be any, and where a dash stands for nothing.
func TestSessionAnyWords(t *testing.T) {
	tryScript(t, `
		pass d1 ann give cy 1 - - - -> 0 0 3
		may cy 1 any any any -> yes
		pass d1 ann give dan 2 vol - - -> 0 0 4
		may dan 2 vol any any -> yes
		may dan 2 job any any -> no
		pass d1 ann give eve 3 - ops - -> 0 0 5
		may eve 3 any ops any -> yes
		may eve 3 any dev any -> no
		pass d1 ann give fay 4 - - p -> 0 0 6
		may fay 4 any any pp -> yes
		may fay 4 any any q -> no
		pass d1 ann give - 5 - - - -> 0 0 7
		may - 5 any any any -> yes
		pass d1 - give gil 5 - - - -> 0 0 8
		pass d1 ann give hal 1 -- -- -- -> 0 0 9
		may hal 1 -- -- -- -> yes
		may hal 1 -- -- --x -> yes
		may hal 1 -- -- - -> no
		may hal 1 - -- -- -> no
		may hal 1 -- - -- -> no
		pass d1 ann give ida 1 JOB - - -> 2 0 0
		pass d1 ann give ida 1 - DEV - -> 2 0 0
		pass d1 ann give ida 1 - - Q -> 2 0 0
		pass d1 ann give ida 1 - - 12345678901234567 -> 2 0 0
		pass d1 ann give ida 1 none none none -> 0 0 10
		pass d1 ann give IDA 1 - - - -> 2 0 0
		pass d1 ann give ida 21 - - - -> 2 0 0
		pass d1 ann give ida 11 - - - -> 2 0 0
		pass d1 ann give ida 0 - - - -> 2 0 0
		pass d1 ann give ida 6 - - - -> 2 0 0
		pass d1 ann give ida 01 - - - -> 2 0 0
		pass d1 ann give ida 123456789 - - - -> 2 0 0
		pass d1 ann give ida 99999999999999999999999999999999 - - - -> 2 0 0
		pass d1 ann give ida 1 - - - - -> bad
		pass d1 ann give ida 1x - - - -> bad
		pass d1 ann give ida x1 - - - -> bad
		pass d1 ann give ida - - - - -> bad
		pass d1 ann give ida -1 - - - -> bad
		pass d1 ann give ida +1 - - - -> bad
		pass d1 ann give ida 1,2 - - - -> bad
		pass d1 ann give ida ١ - - - -> bad
		pass d1 ann give ida 135 - lab - -> 0 0 11
		may ida 1 job lab x -> yes
		may ida 2 job lab x -> no
		may ida 3 job lab x -> yes
		may ida 5 job lab x -> yes
		pass d1 ann make berth - dev room=1 -> 0 0 12
		show berth - -> dev 12 room=1 zone=a
		pass d1 ann make berth x - room=1 -> 2 0 0
		pass d1 ann make berth x NONE room=1 -> 2 0 0
		pass d1 ann make berth x +dev room=1 -> 2 0 0
		pass d1 ann make berth x room=1 -> 2 0 0
		pass d1 ann make berth +x dev room=1 -> 2 0 0
		pass d1 ann make berth x +dev dev room=1 -> bad
		pass d1 +ann end berth +x 0 -> 2 0 0
		pass d1 ann letgo berth - +h -> 2 0 0
		pass d1 ann give +cy 1 - - - -> 2 0 0
		pass d1 ann make job j dev on=- -> 0 0 13
		pass d1 ann letgo berth - - -> 11 0 0
		pass d1 ann end berth - 0 -> 0 0 14
		pass d1 =+! end berth - 0 -> 2 0 0
		show - - -> none
		show BERTH - -> none
		show =+! \ -> none
		show berth\x berth -> none
		may =+! 1 =+! =+! =+! -> no
		may ann 1 =+! =+! =+! -> yes
		draw d1 =+! =+! 1 -> 2 0 0
		back d1 =+! =+! -> 2 0 0
		bound =+! =+! 1 -> 2 0 0
	`)
}

// fullLines is each command and each ACT, with no more words than it must have.
func fullLines() []string {
	lines := []string{
		"commit d1 0", "lose d1 0", "look d1", "die d1", "rise d1", "tick", "sweep", "draw d1 dev need 1", "back d1 dev need", "bound dev need 5",
		"show berth b1", "books", "doomed", "may ann 1 berth dev b1", "safe",
	}
	for _, ask := range []string{"make berth b1 dev", "change berth b1 0", "end berth b1 0", "letgo berth b1 h", "give cy 1 - - -", "take 1"} {
		lines = append(lines, "ask d1 ann "+ask, "pass d1 ann "+ask)
	}
	return lines
}

// isBad asks that a line is bad, and that it does nothing to a session that it stands in.
func isBad(t *testing.T, line string) {
	t.Helper()
	if got := impl.GateSession(line + "\n"); got != "bad\n" {
		t.Errorf("%q: %q", line, got)
	}
	around := []string{"bound dev need 9", "draw d1 dev need 4", "pass d1 ann make berth b1 dev room=3 +h", "ask d1 ann take 2", line, "books", "show berth b1", "may bob 1 job dev b", "commit d1 0", "look d1", "pass d1 ann end berth b1 0"}
	want := "code 0 place 0 version 0\ncode 0 place 0 version 0\ncode 0 place 0 version 3\ncode 0 place 0 version 0\nbad\n" +
		"dev/need 0+4+5=9\ndev 3 room=3 zone=a +h\nyes\ncode 0 place 0 version 4\ncode 0 place 0 version 0\ncode 0 place 0 version 5\n"
	if got := impl.GateSession(joined(around)); got != want {
		t.Errorf("%q among others: %q", line, got)
	}
}

func TestSessionWordsTooFewAndTooMany(t *testing.T) {
	for _, line := range fullLines() {
		if got := impl.GateSession(line); got == "bad\n" || strings.Count(got, "\n") != 1 {
			t.Errorf("%q: %q", line, got)
		}
		words := strings.Split(line, " ")
		for n := 1; n < len(words); n++ {
			isBad(t, strings.Join(words[:n], " "))
		}
		for _, more := range []string{"x", "0", "-", "+", "d1", "=", "need", "need=1"} {
			if more == "+" && strings.Contains(line, "make") {
				continue
			}
			isBad(t, line+" "+more)
		}
	}
}

func TestSessionSpaces(t *testing.T) {
	for _, line := range fullLines() {
		for _, other := range []string{" " + line, line + " ", "  " + line, line + "  ", " " + line + " ", "\t" + line} {
			isBad(t, other)
		}
		words := strings.Split(line, " ")
		for n := 1; n < len(words); n++ {
			// A word that is empty, though there are as many as must be.
			isBad(t, strings.Join(slices.Concat(words[:n], []string{""}, words[n+1:]), " "))
			for _, between := range []string{"  ", "   ", "\t", "", " \t ", "\u00a0", "\v"} {
				isBad(t, strings.Join(words[:n], " ")+between+strings.Join(words[n:], " "))
			}
		}
	}
	for _, line := range []string{"", " ", "  ", "\t", "\r", "\x00"} {
		isBad(t, line)
	}
	// What is no space is part of its word.
	for line, want := range map[string]string{
		"tick\r": "bad", "tick\t": "bad", "show berth b1\r": "none", "show\u00a0berth b1": "bad", "look d1\r": "bad", "may ann 1 job dev b\t": "yes", "may ann\r 1 job dev b": "no", "commit d1 0\r": "bad",
		"pass d1 ann end berth b1\r 0": "code 2 place 0 version 0", "pass d1 ann make berth b1 dev\r": "code 2 place 0 version 0", "pass d1 ann make vol v dev size=1 note=x\r": "code 7 place 2 version 0",
	} {
		if got := impl.GateSession(line + "\n"); got != want+"\n" {
			t.Errorf("%q: %q, not %q", line, got, want)
		}
	}
}

func TestSessionUnknownWords(t *testing.T) {
	for _, line := range []string{
		"what", "bad", "none", "yes", "too long", "d1", "0", "-", "make", "pass", "ASK d1 ann take 1", "Tick", "ticks", "tic", "commits d1 0", "asks d1 ann take 1", "passes d1 ann take 1", "loses d1 0", "looks d1",
		"draws d1 dev need 1", "backs d1 dev need", "binds dev need 1", "dies d1", "rises d1", "sweeps", "book", "doom", "mays ann 1 a b c", "safely", "\xff", "ti\x00ck",
		"make berth b1 dev", "ann make berth b1 dev", "d1 ann take 1", "pass ann take 1",
	} {
		isBad(t, line)
	}
	for _, command := range []string{"ask", "pass"} {
		for _, ask := range []string{"", " ", " MAKE berth b1 dev", " makes berth b1 dev", " let-go berth b1 h", " letGo berth b1 h", " show berth b1", " 1 berth b1 dev", " + berth b1 dev", " - berth b1 dev", " ask d1 ann take 1", " = = =", " taken 1", " give"} {
			isBad(t, command+" d1 ann"+ask)
		}
	}
	for _, door := range []string{"d0", "d3", "d", "D1", "d11", "d1d2", "1", "0", "-1", "-", "d1,d2", "dd1", "d1\r", "\xff", "ann"} {
		for _, line := range fullLines() {
			if strings.Contains(line, " d1") {
				isBad(t, strings.Replace(line, " d1", " "+door, 1))
			}
		}
	}
	for _, kind := range []string{"berths", "Berth", "ber", "vols", "mark", "-", "none", "0", "=", "+", "\xff", "berth\r"} {
		for _, line := range fullLines() {
			if strings.HasPrefix(line, "ask") && strings.Contains(line, " berth ") || strings.HasPrefix(line, "pass") && strings.Contains(line, " berth ") {
				isBad(t, strings.Replace(line, " berth ", " "+kind+" ", 1))
			}
		}
		for _, line := range []string{"show KIND b1", "may ann 1 KIND dev b1", "pass d1 ann give cy 1 KIND dev b"} {
			if got := impl.GateSession(strings.Replace(line, "KIND", kind, 1)); got == "bad\n" || strings.Count(got, "\n") != 1 {
				t.Errorf("%s, of the kind %q: %q", line, kind, got)
			}
		}
	}
}

// N in each line that has one; %s is its place.
func TestSessionNumbers(t *testing.T) {
	for line, want := range map[string]string{
		"commit d1 %s": "code 13 place 0 version 0", "lose d1 %s": "code 13 place 0 version 0", "draw d1 dev need %s": "code 2 place 0 version 0", "bound none need %s": "code 2 place 0 version 0",
		"may bob %s job ops b": "no", "pass d1 ann change berth b1 %s": "code 3 place 0 version 0", "ask d2 ann change berth b1 %s room=1": "code 3 place 0 version 0",
		"pass d1 ann end berth b1 %s": "code 3 place 0 version 0", "ask d2 ann end job b1 %s": "code 3 place 0 version 0",
	} {
		for _, number := range []string{"0", "1", "6", "10", "1000000", "1000001", "9999999"} {
			if got := impl.GateSession(fmt.Sprintf(line, number)); got != want+"\n" {
				t.Errorf("%s, %s: %q, not %q", line, number, got, want)
			}
		}
	}
	bad := []string{"00", "01", "007", "0000000", "+1", "-1", "-0", "+", "-", "10000000", "12345678", "00000001", "99999999999999999999", "1.0", "1e3", "0x1", "1_0", "x", "1x", "x1", "٣", "\xff", "1\r", "1\x00", "=1", "½"}
	for _, line := range []string{"commit d1 %s", "lose d2 %s", "draw d1 dev need %s", "bound dev need %s", "may ann %s job dev b", "pass d1 ann change berth b1 %s room=1", "ask d2 ann change berth b1 %s", "pass d1 ann end berth b1 %s", "ask d1 ann end berth b1 %s", "pass d1 ann take %s", "ask d1 ann take %s"} {
		for _, number := range bad {
			isBad(t, fmt.Sprintf(line, number))
		}
		isBad(t, fmt.Sprintf(line, ""))
	}
	tryScript(t, `
		pass d1 ann take 1000001 -> 3 0 0
		pass d1 ann take 9999999 -> 3 0 0
		ask d1 ann take 0 -> 2 0 0
		bound dev need 1000000 -> 0 0 0
		bound dev need 9999999 -> 2 0 0
		draw d1 dev need 1000000 -> 0 0 0
		books -> dev/need 0+1000000+0=1000000
		draw d1 dev need 1 -> 3 0 0
	`)
}

// How a text is cut into lines.
func TestSessionLines(t *testing.T) {
	const ok = "code 0 place 0 version 0\n"
	for text, want := range map[string]string{
		"": "", "\n": "bad\n", "\n\n": "bad\nbad\n", "\n\n\n": "bad\nbad\nbad\n",
		"tick": ok, "tick\n": ok, "tick\n\n": ok + "bad\n", "tick\n\n\n": ok + "bad\nbad\n", "\ntick": "bad\n" + ok, "\ntick\n": "bad\n" + ok,
		"tick\ntick": ok + ok, "tick\n\ntick": ok + "bad\n" + ok, "tick\n \ntick\n": ok + "bad\n" + ok, "tick\n ": ok + "bad\n", "tick \n": "bad\n", " tick\n": "bad\n", "tick \ntick": "bad\n" + ok,
		"tick\r\ntick": "bad\n" + ok, "tick\rtick": "bad\n", "tick\n\rtick": ok + "bad\n", "tick\x00\n": "bad\n", "tick\u2028tick": "bad\n", "tick\u0085tick\n": "bad\n", "tick\\ntick": "bad\n",
		"books\nsafe": "none\nyes\n", "safe\nbooks\n": "yes\nnone\n",
	} {
		if got := impl.GateSession(text); got != want {
			t.Errorf("%q: %q, not %q", text, got, want)
		}
	}
}

// GateMaxSession bytes and GateMaxLines lines may be met exactly.
func TestSessionTooLong(t *testing.T) {
	const tooLong = "too long\n"
	bads := func(n int) string { return strings.Repeat("bad\n", n) }
	fill := func(size int) string { return strings.Repeat("x", size) }
	for _, c := range []struct{ what, text, want string }{
		{"a line of as many bytes as may be", fill(20000), "bad\n"},
		{"with its newline", fill(19999) + "\n", "bad\n"},
		{"one byte more", fill(20001), tooLong},
		{"the newline is one byte more", fill(20000) + "\n", tooLong},
		{"ahead of it a line that does something", "safe\n" + fill(19995), "yes\nbad\n"},
		{"ahead of one byte more", "safe\n" + fill(19996), tooLong},
		{"a word of a line that does something", "show " + fill(19993) + " b", "none\n"},
		{"one byte more in that word", "show " + fill(19994) + " b", tooLong},
		{"bytes are counted, not runes", strings.Repeat("é", 10000), "bad\n"},
		{"one rune more, though few runes", strings.Repeat("é", 10001), tooLong},
		{"runes of three bytes", strings.Repeat("€", 6667), tooLong},
		{"spaces", strings.Repeat(" ", 20001), tooLong},
		{"as many lines as may be", strings.Repeat("x\n", 300), bads(300)},
		{"with no newline at the end", strings.Repeat("x\n", 299) + "x", bads(300)},
		{"one line more", strings.Repeat("x\n", 301), tooLong},
		{"one line more, with no newline at the end", strings.Repeat("x\n", 300) + "x", tooLong},
		{"empty lines", strings.Repeat("\n", 300), bads(300)},
		{"one empty line more", strings.Repeat("\n", 301), tooLong},
		{"an empty line behind the others", strings.Repeat("x\n", 299) + "\n", bads(300)},
		{"one empty line more behind the others", strings.Repeat("x\n", 300) + "\n", tooLong},
		{"a space behind the others", strings.Repeat("x\n", 300) + " ", tooLong},
		{"lines that do something", strings.Repeat("safe\n", 300), strings.Repeat("yes\n", 300)},
		{"one of them more", strings.Repeat("safe\n", 301), tooLong},
		{"as many bytes and lines as may be", strings.Repeat("x\n", 299) + fill(20000-2*299), bads(300)},
		{"one byte more in as many lines", strings.Repeat("x\n", 299) + fill(20001-2*299), tooLong},
		{"as many bytes in one line more", strings.Repeat("x\n", 300) + fill(20000-2*300), tooLong},
		{"as many bytes in many lines", strings.Repeat("\n", 20000), tooLong},
		{"both too many", strings.Repeat("safe\n", 30000), tooLong},
		{"a great text", fill(5000000), tooLong},
		{"carriage returns are no newlines", strings.Repeat("\r", 301), "bad\n"},
	} {
		if got := impl.GateSession(c.text); got != c.want {
			t.Errorf("%s: %q", c.what, got[:min(len(got), 200)])
		}
	}
	if impl.GateMaxSession != 20000 || impl.GateMaxLines != 300 {
		t.Error("the limits are not the document's")
	}
}

// Doomed with none, one and several, in the order of the objects; and what shows of each.
func TestSessionDoomed(t *testing.T) {
	tryScript(t, `
		pass d1 ann make job j2 dev -> 0 0 3
		pass d1 ann make job j10 dev of=j2 -> 0 0 4
		pass d1 ann make vol a lab size=3 +x +y +z -> 0 0 5
		pass d1 ann make berth z ops zone=c -> 0 0 6
		pass d1 ann make job j1 ops of=j10 vol=a on=z +h -> 0 0 7
		doomed -> 0
		pass d1 ann end berth z 0 -> 0 0 8
		doomed -> 0
		pass d1 ann end job j1 0 -> 0 0 9
		doomed -> 0
		pass d1 ann letgo job j1 h -> 0 0 10
		doomed -> 2 berth/z job/j1
		pass d1 ann end vol a 0 -> 0 0 11
		doomed -> 2 berth/z job/j1
		pass d1 ann letgo vol a y -> 0 0 12
		show vol a -> lab 12 ending size=3 +x +z
		pass d1 ann letgo vol a z -> 0 0 13
		pass d1 ann letgo vol a x -> 0 0 14
		doomed -> 3 berth/z job/j1 vol/a
		pass d1 ann end job j2 0 -> 0 0 15
		doomed -> 5 berth/z job/j1 job/j10 job/j2 vol/a
		show job j10 -> dev 4 need=1 of=j2
		show job j1 -> ops 10 ending need=1 on=z vol=a of=j10
		sweep -> 0 0 0
		doomed -> 0
		show job j10 -> none
		sweep -> 2 0 0
	`)
	tryScript(t, `
		pass d1 ann make vol a lab size=3 -> 0 0 3
		pass d1 ann end vol a 3 -> 0 0 4
		doomed -> 1 vol/a
		show vol a -> lab 4 ending size=3
		show job a -> none
		sweep -> 0 0 0
		doomed -> 0
	`)
}

// A row of owners goes whole, behind as many sweeps as it takes to mark them.
func TestSessionLongRow(t *testing.T) {
	var row, names strings.Builder
	row.WriteString("pass d1 ann make job j00 lab -> 0 0 3\n")
	for i := 1; i < 40; i++ {
		fmt.Fprintf(&row, "pass d2 ann make job j%02d lab of=j%02d -> 0 0 %d\n", i, i-1, 3+i)
	}
	for i := range 40 {
		fmt.Fprintf(&names, " job/j%02d", i)
	}
	row.WriteString("bound dev job 41 -> 0 0 0\npass d1 ann end job j00 3 -> 0 0 43\n")
	for range 39 {
		row.WriteString("doomed -> 40" + names.String() + "\nbooks -> dev/job 40+0+1=41\nsweep -> 0 0 0\n")
	}
	tryScript(t, row.String()+`
		doomed -> 0
		books -> dev/job 0+0+41=41
		sweep -> 2 0 0
		pass d1 ann make job j00 ops -> 0 0 83
	`)
}

// Texts of any bytes are answered, line by line, and the same at each call, whatever was played between.
func TestSessionAnyBytes(t *testing.T) {
	texts := oddTexts()
	for _, odd := range oddTexts() {
		for _, line := range fullLines() {
			words := strings.Split(line, " ")
			for i := range words {
				turned := slices.Clone(words)
				turned[i] = odd
				texts = append(texts, strings.Join(turned, " "))
			}
		}
		texts = append(texts, "pass d1 ann make vol v1 dev size="+odd, "pass d1 ann make vol v1 dev size=1 note="+odd, "pass d1 ann make vol v1 dev size=1 +"+odd, "pass d1 ann make vol v1 dev size=1 "+odd+"=1", "ask d1 ann make job j dev on="+odd)
	}
	var first []string
	for _, text := range texts {
		got := impl.GateSession(text)
		first = append(first, got)
		want := strings.Count(text, "\n")
		if !strings.HasSuffix(text, "\n") && text != "" {
			want++
		}
		if len(text) > 20000 {
			if got != "too long\n" {
				t.Errorf("%q: %q", text[:40], got)
			}
			continue
		}
		if strings.Count(got, "\n") != want || got != "" && !strings.HasSuffix(got, "\n") {
			t.Errorf("%q: %q", text, got)
		}
		if want := playedText(text); got != want {
			t.Errorf("%q: %q, not %q", text, got, want)
		}
	}
	for i := range texts {
		if again := impl.GateSession(texts[len(texts)-1-i]); again != first[len(texts)-1-i] {
			t.Errorf("%.60q once more: %q", texts[len(texts)-1-i], again)
		}
	}
}
