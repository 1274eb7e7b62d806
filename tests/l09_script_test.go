package tests

import (
	"fmt"
	"regexp"
	"slices"
	"strconv"
	"strings"
	"testing"

	"loop.example/g00155/impl"
)

// What the document tells of scripts, worked out the plain way: a line is read
// by one pattern for all forms, and what it asks for is done by the plain group.

var lineForm = regexp.MustCompile(`^ *(?:(call) +([0-9]{1,9}) +([0-9]{1,9})|(tick|settle|who) +([0-9]{1,9})|(restart|drop|recall|resume|count))? *$`)

func stateWords() []string {
	return []string{"waits", "rides", "there", "out", "gone"}
}

func plainNumber(digits string) int64 {
	n, _ := strconv.ParseInt("0"+digits, 10, 64)
	return n
}

func toldOf(r impl.GroupResult, said string, numbers ...any) impl.ScriptResult {
	if r.Code != impl.OK {
		return impl.ScriptResult{Code: r.Code}
	}
	return impl.ScriptResult{Group: r.Group, Said: fmt.Sprintf(said, numbers...)}
}

func plainTicks(g impl.Group, ticks int64) impl.ScriptResult {
	r := impl.GroupResult{Group: g}
	if ticks > 500 {
		r = impl.GroupResult{Code: impl.ErrRange}
	}
	for i := int64(0); r.Code == impl.OK && i < ticks; i++ {
		r = plainTicked(r.Group, 0, 0)
	}
	return toldOf(r, "tick %d", r.Group.Tick)
}

func plainWho(g impl.Group, id int64) impl.ScriptResult {
	found := who(g.Ledger, func(p impl.Person) bool { return p.Id == id })
	if len(found) == 0 {
		return impl.ScriptResult{Code: impl.ErrNone}
	}
	return toldOf(impl.GroupResult{Group: g}, "%s %d %d", stateWords()[found[0].State], found[0].Shaft, found[0].Car)
}

func plainCount(g impl.Group) impl.ScriptResult {
	said := "count"
	for state := range int64(5) {
		said += fmt.Sprint(" ", len(who(g.Ledger, isOneOf(state))))
	}
	return impl.ScriptResult{Group: g, Said: said}
}

func plainStep(g impl.Group, line string) impl.ScriptResult {
	if fault := plainGroupFault(g); fault != impl.OK {
		return impl.ScriptResult{Code: fault}
	}
	parts := lineForm.FindStringSubmatch(line)
	if parts == nil {
		return impl.ScriptResult{Code: impl.ErrText}
	}
	switch n := plainNumber(parts[5]); parts[1] + parts[4] + parts[6] {
	case "call":
		r := plainCalled(g, plainNumber(parts[2]), plainNumber(parts[3]))
		return toldOf(r, "id %d", r.Id)
	case "tick":
		return plainTicks(g, n)
	case "settle":
		r := plainSettled(g, n)
		return toldOf(r, "settled %d", r.Id)
	case "restart":
		return toldOf(plainRestarted(g, true), "ok")
	case "drop":
		return toldOf(plainRestarted(g, false), "ok")
	case "recall":
		return toldOf(plainRecalled(g, true), "ok")
	case "resume":
		return toldOf(plainRecalled(g, false), "ok")
	case "who":
		return plainWho(g, n)
	case "count":
		return plainCount(g)
	}
	return impl.ScriptResult{Group: g}
}

// plainLines are what line feeds end, and what is behind the last one.
func plainLines(text string) []string {
	var lines []string
	for text != "" {
		line, rest, _ := strings.Cut(text, "\n")
		lines, text = append(lines, line), rest
	}
	return lines
}

func plainRun(g impl.Group, text string) impl.ScriptResult {
	if fault := plainGroupFault(g); fault != impl.OK {
		return impl.ScriptResult{Code: fault}
	}
	if len(text) > 3000 || len(plainLines(text)) > 80 {
		return impl.ScriptResult{Code: impl.ErrMany}
	}
	r := impl.ScriptResult{Group: g}
	for _, line := range plainLines(text) {
		step := plainStep(r.Group, line)
		switch {
		case step.Code != impl.OK:
			r.Said += fmt.Sprintf("! %d\n", step.Code)
		case step.Said != "":
			r.Said += step.Said + "\n"
			fallthrough
		default:
			r.Group = step.Group
		}
	}
	return r
}

func plainFormat(g impl.Group) string {
	if plainGroupFault(g) != impl.OK {
		return ""
	}
	lines := []string{fmt.Sprint("tick ", g.Tick, " 0")}
	if g.Recall {
		lines = []string{fmt.Sprint("tick ", g.Tick, " 1")}
	}
	for _, d := range g.Decks {
		l, u := d.Shaft.Lower, d.Shaft.Upper
		lines = append(lines, fmt.Sprintf("lower %d %d %d %d %d", l.Pos, l.Vel, l.Door, d.Spans.Lower.Low, d.Spans.Lower.High))
		lines = append(lines, fmt.Sprintf("upper %d %d %d %d %d", u.Pos, u.Vel, u.Door, d.Spans.Upper.Low, d.Spans.Upper.High))
	}
	for _, p := range g.Ledger.People {
		lines = append(lines, fmt.Sprintf("person %d %d %d %s", p.Id, p.From, p.To, stateWords()[p.State]))
	}
	return strings.Join(append(lines, ""), "\n")
}

func sparesOf(g impl.Group) []int64 {
	var list []int64
	for _, d := range g.Decks {
		list = append(list, impl.SpareOf(g.House, d.Shaft).Value)
	}
	return list
}

func plainWatch(g impl.Group, ticks, driftL, driftU int64) impl.WatchResult {
	drift := g.House.Drift
	switch fault := plainGroupFault(g); {
	case fault != impl.OK:
		return impl.WatchResult{Code: fault}
	case ticks < 0, ticks > 2000, driftL < -drift, driftL > drift, driftU < -drift, driftU > drift:
		return impl.WatchResult{Code: impl.ErrRange}
	}
	r, spares := impl.GroupResult{Group: g}, sparesOf(g)
	for range ticks {
		r = plainTicked(r.Group, driftL, driftU)
		if r.Code != impl.OK {
			return impl.WatchResult{Code: r.Code}
		}
		spares = append(spares, sparesOf(r.Group)...)
	}
	there := len(who(r.Group.Ledger, isOneOf(impl.StateThere)))
	return impl.WatchResult{Least: slices.Min(spares), There: int64(there), Group: r.Group}
}

func sameScripted(a, b impl.ScriptResult) bool {
	return a.Code == b.Code && a.Said == b.Said && sameGroups(a.Group, b.Group)
}

func sameWatched(a, b impl.WatchResult) bool {
	return a.Code == b.Code && a.Least == b.Least && a.There == b.There && sameGroups(a.Group, b.Group)
}

// wantScripted holds an answer, and that a group that is told has no fault.
func wantScripted(t *testing.T, name string, g impl.Group, got, want impl.ScriptResult) {
	t.Helper()
	if !sameScripted(got, want) {
		t.Fatalf("%s of %+v is\n%+v, not\n%+v", name, g, got, want)
	}
	if got.Code == impl.OK && impl.GroupFault(got.Group) != impl.OK {
		t.Fatalf("%s of %+v is %+v, which has the fault %d", name, g, got, impl.GroupFault(got.Group))
	}
}

func wantWatched(t *testing.T, name string, g impl.Group, got, want impl.WatchResult) {
	t.Helper()
	if !sameWatched(got, want) {
		t.Fatalf("%s of %+v is\n%+v, not\n%+v", name, g, got, want)
	}
}

// wantStep holds what a line tells by hand.
func wantStep(t *testing.T, g impl.Group, line string, want impl.ScriptResult) {
	t.Helper()
	wantScripted(t, fmt.Sprintf("StepScript %q", line), g, impl.StepScript(g, line), want)
}

// wantStepCode holds that a line has a code, that all else is zero, and that a
// script of that line alone tells the code and leaves the group as it was.
func wantStepCode(t *testing.T, g impl.Group, line string, code int64) {
	t.Helper()
	wantStep(t, g, line, impl.ScriptResult{Code: code})
	if !strings.Contains(line, "\n") && line != "" {
		want := impl.ScriptResult{Group: g, Said: fmt.Sprintf("! %d\n", code)}
		wantScripted(t, fmt.Sprintf("RunScript %q", line), g, impl.RunScript(g, line), want)
	}
}

func TestScriptConstants(t *testing.T) {
	if impl.MaxText != 3000 || impl.MaxLines != 80 {
		t.Error(impl.MaxText, impl.MaxLines)
	}
}

func TestStateWords(t *testing.T) {
	for state, want := range stateWords() {
		if got := impl.StateWord(int64(state)); got != want {
			t.Errorf("StateWord %d is %q, not %q", state, got, want)
		}
	}
	for _, state := range append(outside(0, 4), 6, 256, 1<<32, 1<<32+1, 3-1<<32) {
		if got := impl.StateWord(state); got != "" {
			t.Errorf("StateWord %d is %q", state, got)
		}
	}
}

// storyGroup has two shafts, doors that are open, and people in all states.
func storyGroup() impl.Group {
	decks := []impl.Deck{
		deckOf(phased{0, 0, 2, 'o'}, phased{800, 0, 1, 's'}, spansOf(0, 0, 2, 2)),
		deckOf(phased{100, 30, 0, 'g'}, phased{800, 0, 0, 'o'}, spansOf(0, 1, 2, 3)),
	}
	list := []impl.Person{
		person(1, 'w', 0, 2, 0, 0), person(2, 'r', 0, 1, 0, 0), person(3, 't', 0, 2, 1, 0), person(4, 'w', 1, 2, 1, 1),
		person(6, 'o', 0, 2, 1, 0), person(7, 'g', 0, 2, 0, 1), person(9, 'r', 2, 0, 1, 1), person(12, 'r', 0, 1, 0, 1),
	}
	return withTick(withDecks(freshGroup(exampleHouse(), 1, list...), decks...), 9)
}

// Blanks may stand everywhere between words, and noughts ahead of numbers.
func TestLinesThatAreRead(t *testing.T) {
	g := storyGroup()
	alike := map[string][]string{
		"call 1 2":  {" call 1 2", "call 1 2 ", "   call   1    2   ", "call 01 2", "call 1 000000002", "call 000000001 000000002"},
		"call 0 2":  {"call 00 02", "call 000000000 2", "  call 0  2"},
		"tick 3":    {" tick 3", "tick  3", "tick 3 ", "tick 03", "tick 000000003", "     tick     3     "},
		"tick 0":    {"tick 00", "tick 000000000"},
		"settle 40": {" settle 40", "settle   40", "settle 40  ", "settle 040", "settle 000000040"},
		"who 9":     {"who 09", "  who  9  ", "who 000000009"},
		"restart":   {" restart", "restart ", "   restart   "},
		"drop":      {" drop", "drop ", "  drop  "},
		"recall":    {" recall", "recall ", "  recall  "},
		"resume":    {" resume", "resume ", "  resume  "},
		"count":     {" count", "count ", "  count  "},
		"":          {" ", "  ", strings.Repeat(" ", 5000)},
	}
	for line, others := range alike {
		want := plainStep(g, line)
		if want.Code != impl.OK {
			t.Fatalf("%q tells %d", line, want.Code)
		}
		for _, other := range append(others, line) {
			wantStep(t, g, other, want)
		}
	}
}

// A line without words changes nothing and says nothing.
func TestLinesWithoutWords(t *testing.T) {
	for _, h := range groupHouses() {
		for _, line := range []string{"", " ", "     "} {
			g := withTick(freshGroup(h, 3), big1)
			wantStep(t, g, line, impl.ScriptResult{Group: g})
		}
	}
	for _, line := range []string{"", " ", "     "} {
		wantStep(t, storyGroup(), line, impl.ScriptResult{Group: storyGroup()})
		wantStep(t, recalled(storyGroup()), line, impl.ScriptResult{Group: recalled(storyGroup())})
	}
}

// unreadableLines are not even words, or not the words of any form.
func unreadableLines() []string {
	lines := []string{
		"\t", "\t ", " \t ", "\r", "\x00", "\x0b", "\u00a0", "\x80", "\xff", "\xc3", "é", "日本", "!", "-", "0", "1 2", "call\t0 1", "call 0\t1", "call 0 1\t", "\tcall 0 1",
		"count\r", "count\x00", "count\u00a0", "\u00a0count", "co\xffunt", "count\xff", "call\u20030 1", "tick ١", "tick １", "tick 1\xff", "tick \xff", "tick é",
		"call", "call 1", "call 1 2 0", "call 1 2 call", "call 1 2 1 2", "call 1, 2", "call 1,2", "call 12", "call one two", "call 1 x", "call x 1",
		"tick", "tick 1 1", "tick x", "tick 1x", "tick x1", "tick 1.", "tick 1.0", "tick 1e1", "tick 0x1", "tick 1_0", "tick '1'", "tick ''", "tick tick", "tick 1 tick 1",
		"settle", "settle 1 1", "settle x", "who", "who 1 2", "who am i", "who x", "1 tick", "2 who",
		"restart 1", "restart restart", "drop 1", "drop 0", "recall 1", "recall 0", "recall true", "resume 1", "resume resume", "count 1", "count 0", "count count",
		"Call 0 1", "CALL 0 1", "Tick 1", "TICK 1", "tIck 1", "Settle 1", "WHO 1", "Restart", "RESTART", "Drop", "Recall", "Resume", "COUNT", "counT",
		"calls 0 1", "call0 1", "call1 2", "cal 0 1", "c 0 1", "tic 1", "ticks 1", "tick1", "settled 1", "settl 1", "wh 1", "whom 1", "who1", "id 1", "waits", "ok",
		"restar", "restarts", "restarted", "dro", "drops", "recal", "recalls", "re", "resum", "resumes", "coun", "counts", "counting", "restart,", "count;", "count#",
		"tick -1", "tick +1", "tick -0", "tick --1", "tick 1-", "tick - 1", "tick -", "tick +", "settle -1", "settle +1", "who -1", "who +1", "call -1 1", "call 1 -1", "call +0 1", "call 0 +1", "call - 1",
		"tick 1000000000", "tick 0000000000", "tick 0000000001", "settle 0000000001", "settle 1000000000", "who 0000000001", "who 1234567890", "call 0000000000 1", "call 0 0000000001",
		"tick 9223372036854775808", "tick 18446744073709551617", "who " + strings.Repeat("0", 4000), "who " + strings.Repeat("9", 4000), strings.Repeat("x", 4000), strings.Repeat("count ", 4000),
	}
	for _, line := range []string{"", " ", "count", "call 0 1", "tick 1", "settle 1", "who 1", "restart", "drop", "recall", "resume"} {
		middle := strings.Replace(line, " ", "\n", 1)
		lines = append(lines, "\n"+line, line+"\n", "\n"+line+"\n", line+" \n", line+"\r\n", middle+"\n", strings.Replace(line, " ", " \n ", 1)+"\n", line+"\n"+line)
	}
	return append(lines, "call\n0 1", "call 0\n1", "tick\n1", "tick 1\n2", "cou\nnt", "ti\nck 1", "who 1\n1", "who\n1")
}

func TestLinesThatCannotBeRead(t *testing.T) {
	groups := []impl.Group{freshGroup(exampleHouse(), 1), storyGroup(), recalled(storyGroup()), withTick(freshGroup(greatestHouse(), 3), big1)}
	for _, g := range groups {
		for _, line := range unreadableLines() {
			if len(line) > 3000 {
				wantStep(t, g, line, impl.ScriptResult{Code: impl.ErrText})
				continue
			}
			wantStepCode(t, g, line, impl.ErrText)
		}
	}
}

// Each byte alone, ahead of, in and behind a word that can be read.
func TestEveryByteInALine(t *testing.T) {
	g := freshGroup(exampleHouse(), 1, person(1, 'w', 0, 1, 0, 0))
	for b := range 256 {
		char := string([]byte{byte(b)})
		for _, line := range []string{char, char + "count", "count" + char, "cou" + char + "nt", "who" + char + "1", "who 1" + char, "who " + char + "1", "who " + char} {
			wantStep(t, g, line, plainStep(g, line))
		}
		isBlank := b == ' '
		if got := impl.StepScript(g, "count"+char); (got.Code == impl.OK) != isBlank {
			t.Errorf("the byte %d behind a word: %+v", b, got)
		}
		if got := impl.StepScript(g, "who"+char+"1"); (got.Code == impl.OK) != isBlank {
			t.Errorf("the byte %d between words: %+v", b, got)
		}
	}
}

// Numbers of 1 to 9 digits are read whole; those of 10 are none.
func TestNumbersOfALine(t *testing.T) {
	g := freshGroup(exampleHouse(), 1)
	g.Ledger = impl.Ledger{Next: 2000000000}
	ids := []int64{1, 7, 10, 12, 99, 123, 4321, 54321, 654321, 7654321, 87654321, 100000000, 123456789, 999999998, 999999999, 1000000000, 1234567890}
	for i, id := range ids {
		g.Ledger.People = append(g.Ledger.People, person(id, 'g', 0, 1, 0, int64(i%2)))
	}
	for i, id := range ids {
		line := fmt.Sprint("who ", id)
		if id > 999999999 {
			wantStepCode(t, g, line, impl.ErrText)
			continue
		}
		wantStep(t, g, line, impl.ScriptResult{Group: g, Said: fmt.Sprint("gone 0 ", i%2)})
		wantStep(t, g, fmt.Sprintf("who %09d", id), impl.ScriptResult{Group: g, Said: fmt.Sprint("gone 0 ", i%2)})
		wantStepCode(t, g, fmt.Sprintf("who %010d", id), impl.ErrText)
		wantStepCode(t, g, fmt.Sprint("who -", id), impl.ErrText)
		wantStepCode(t, g, fmt.Sprint("who +", id), impl.ErrText)
	}
	for _, id := range []string{"0", "2", "11", "999999997", "000000000"} {
		wantStepCode(t, g, "who "+id, impl.ErrNone)
	}
}

func TestCallsOfAScript(t *testing.T) {
	g := freshGroup(exampleHouse(), 2, person(1, 'w', 0, 1, 0, 0), person(4, 'r', 0, 1, 1, 1))
	g.Ledger.Next, g.Tick = 9, 77
	want := ownGroup(g)
	want.Ledger = impl.Ledger{Next: 10, People: append(slices.Clone(g.Ledger.People), person(9, 'w', 1, 2, 0, 1))}
	wantStep(t, g, "call 1 2", impl.ScriptResult{Group: want, Said: "id 9"})
	want.Ledger.People[2] = person(9, 'w', 1, 0, 1, 0)
	wantStep(t, g, "call 1 0", impl.ScriptResult{Group: want, Said: "id 9"})
	for _, next := range []int64{1, 10, 999999999, 1000000000, big1 - 1} {
		g := freshGroup(exampleHouse(), 1)
		g.Ledger.Next = next
		got := impl.StepScript(g, "call 0 2")
		if got.Code != impl.OK || got.Said != fmt.Sprint("id ", next) || got.Group.Ledger.Next != next+1 || got.Group.Ledger.People[0].Id != next {
			t.Errorf("Next %d: %+v", next, got)
		}
	}
}

func TestCallsOfAScriptWithCodes(t *testing.T) {
	h := exampleHouse()
	g, atEnd := freshGroup(h, 1), freshGroup(h, 1)
	atEnd.Ledger.Next = big1
	rows := []struct {
		name string
		g    impl.Group
		line string
		code int64
	}{
		{"in Recall", recalled(g), "call 0 1", impl.ErrDown},
		{"in Recall ahead of no floor", recalled(g), "call 3 1", impl.ErrDown},
		{"in Recall ahead of the same floor", recalled(g), "call 1 1", impl.ErrDown},
		{"from no floor", g, "call 3 1", impl.ErrRange},
		{"to no floor", g, "call 1 3", impl.ErrRange},
		{"far away", g, "call 0 999999999", impl.ErrRange},
		{"from a floor to itself", g, "call 1 1", impl.ErrForm},
		{"from floor 0 to itself, told in two ways", g, "call 0 00", impl.ErrForm},
		{"a full queue", busyGroup(h), "call 0 1", impl.ErrBusy},
		{"to itself ahead of a full queue", busyGroup(h), "call 2 2", impl.ErrForm},
		{"60 who wait or ride", packedGroup(), "call 0 1", impl.ErrMany},
		{"Next is MaxBig", atEnd, "call 0 1", impl.ErrMany},
		{"a text ahead of a Recall", recalled(g), "call 0", impl.ErrText},
		{"a text ahead of a full queue", busyGroup(h), "call 0 -1", impl.ErrText},
	}
	for _, r := range rows {
		wantGroupFault(t, r.name, r.g, impl.OK)
		wantStepCode(t, r.g, r.line, r.code)
	}
}

// after is a group so many ticks later, one by one.
func after(t *testing.T, g impl.Group, ticks, driftL, driftU int64) impl.Group {
	t.Helper()
	for range ticks {
		r := impl.TickGroup(g, driftL, driftU)
		if r.Code != impl.OK {
			t.Fatalf("TickGroup of %+v is %+v", g, r)
		}
		g = r.Group
	}
	return g
}

func TestTicksOfAScript(t *testing.T) {
	h := exampleHouse()
	ride := freshGroup(h, 1, person(1, 'w', 0, 2, 0, 0))
	for _, g := range []impl.Group{freshGroup(h, 1), ride, withTick(ride, 70), storyGroup(), recalled(storyGroup()), packedGroup(), withTick(ride, big1-500)} {
		for _, ticks := range []int64{0, 1, 2, 29, 499, 500} {
			want := impl.ScriptResult{Group: after(t, g, ticks, 0, 0), Said: fmt.Sprint("tick ", g.Tick+ticks)}
			wantStep(t, g, fmt.Sprint("tick ", ticks), want)
		}
		for _, ticks := range []int64{501, 502, 1000, 20000, 999999999} {
			wantStepCode(t, g, fmt.Sprint("tick ", ticks), impl.ErrRange)
		}
	}
}

// A Tick that comes to MaxBig on the way leaves nothing of the ticks ahead.
func TestTicksOfAScriptAtTheEndOfTime(t *testing.T) {
	for _, g := range []impl.Group{freshGroup(exampleHouse(), 2), storyGroup(), recalled(packedGroup())} {
		for left := int64(0); left <= 3; left++ {
			g.Tick = big1 - left
			for ticks := int64(0); ticks <= 5; ticks++ {
				line := fmt.Sprint("tick ", ticks)
				if ticks > left {
					wantStepCode(t, g, line, impl.ErrMany)
					continue
				}
				wantStep(t, g, line, impl.ScriptResult{Group: after(t, g, ticks, 0, 0), Said: fmt.Sprint("tick ", g.Tick+ticks)})
			}
			wantStepCode(t, g, "tick 500", impl.ErrMany)
			wantStepCode(t, g, "tick 501", impl.ErrRange)
		}
		g.Tick = big1 - 499
		wantStepCode(t, g, "tick 500", impl.ErrMany)
		wantStep(t, g, "tick 499", impl.ScriptResult{Group: after(t, g, 499, 0, 0), Said: "tick 1000000000000000"})
	}
}

func TestSettlingByAScript(t *testing.T) {
	h := exampleHouse()
	ride := freshGroup(h, 1, person(1, 'w', 0, 2, 0, 0)) // is quiet in 29 ticks
	stuck := recalled(freshGroup(h, 1, person(1, 'w', 0, 2, 0, 0)))
	rows := []struct {
		g      impl.Group
		line   string
		gone   int64
		code   int64
		isThen bool // whether it is quiet then
	}{
		{freshGroup(h, 1), "settle 0", 0, impl.OK, true},
		{freshGroup(h, 3), "settle 20000", 0, impl.OK, true},
		{withTick(freshGroup(h, 1), big1), "settle 20000", 0, impl.OK, true},
		{ride, "settle 0", 0, impl.OK, false},
		{ride, "settle 1", 1, impl.OK, false},
		{ride, "settle 28", 28, impl.OK, false},
		{ride, "settle 29", 29, impl.OK, true},
		{ride, "settle 20000", 29, impl.OK, true},
		{withTick(ride, 555), "settle 600", 29, impl.OK, true},
		{stuck, "settle 20000", 20000, impl.OK, false},
		{ride, "settle 20001", 0, impl.ErrRange, false},
		{freshGroup(h, 1), "settle 20001", 0, impl.ErrRange, false},
		{ride, "settle 999999999", 0, impl.ErrRange, false},
		{withTick(ride, big1), "settle 20001", 0, impl.ErrRange, false},
		{withTick(ride, big1), "settle 1", 0, impl.ErrMany, false},
		{withTick(ride, big1), "settle 0", 0, impl.OK, false},
		{withTick(ride, big1-28), "settle 29", 0, impl.ErrMany, false},
		{withTick(ride, big1-29), "settle 29", 29, impl.OK, true},
	}
	for _, r := range rows {
		if r.code != impl.OK {
			wantStepCode(t, r.g, r.line, r.code)
			continue
		}
		want := impl.ScriptResult{Group: after(t, r.g, r.gone, 0, 0), Said: fmt.Sprint("settled ", r.gone)}
		wantStep(t, r.g, r.line, want)
		if impl.QuietGroup(want.Group) != r.isThen {
			t.Errorf("%s: quiet is %t", r.line, !r.isThen)
		}
	}
}

// withStates turns the state of everybody, by letters; who is let out stays so.
func withStates(g impl.Group, kinds string) impl.Group {
	g = ownGroup(g)
	for i, kind := range []byte(kinds) {
		g.Ledger.People[i].State = int64(strings.IndexByte("wrtog", kind))
	}
	return g
}

func TestRestartsAndRecallsOfAScript(t *testing.T) {
	shut := []impl.Deck{
		heldDeck(deckOf(phased{0, 0, 2, 's'}, phased{800, 0, 1, 's'}, spansOf(0, 0, 2, 2))),
		heldDeck(deckOf(phased{100, 30, 0, 'g'}, phased{800, 0, 0, 'g'}, spansOf(0, 1, 2, 3))),
	}
	kept, gone := "wrtwogrr", "grtgogrr"
	for _, g := range []impl.Group{storyGroup(), recalled(storyGroup())} {
		on, off := ownGroup(g), ownGroup(g)
		on.Recall, off.Recall = true, false
		rows := []struct {
			line string
			want impl.Group
		}{
			{"restart", withStates(withDecks(g, shut...), kept)},
			{"drop", withStates(withDecks(g, shut...), gone)},
			{"recall", withStates(on, gone)},
			{"resume", withStates(off, kept)},
		}
		for _, r := range rows {
			wantStep(t, g, r.line, impl.ScriptResult{Group: r.want, Said: "ok"})
			wantStep(t, withTick(g, big1), r.line, impl.ScriptResult{Group: withTick(r.want, big1), Said: "ok"})
		}
	}
	for _, line := range []string{"restart", "drop", "recall", "resume"} {
		for _, h := range groupHouses() {
			wantStep(t, freshGroup(h, 3), line, plainStep(freshGroup(h, 3), line))
		}
	}
}

func TestWhoOfAScript(t *testing.T) {
	g := storyGroup()
	rows := []struct{ id, said string }{
		{"1", "waits 0 0"}, {"2", "rides 0 0"}, {"3", "there 1 0"}, {"4", "waits 1 1"}, {"6", "out 1 0"}, {"7", "gone 0 1"}, {"9", "rides 1 1"}, {"12", "rides 0 1"},
	}
	for _, r := range rows {
		wantStep(t, g, "who "+r.id, impl.ScriptResult{Group: g, Said: r.said})
		wantStep(t, withTick(recalled(g), big1), "who "+r.id, impl.ScriptResult{Group: withTick(recalled(g), big1), Said: r.said})
	}
	for _, id := range []string{"0", "5", "8", "10", "11", "13", "14", "999999999"} {
		wantStepCode(t, g, "who "+id, impl.ErrNone)
	}
	for _, id := range []string{"0", "1", "2"} {
		wantStepCode(t, freshGroup(exampleHouse(), 1), "who "+id, impl.ErrNone)
	}
	third := freshGroup(exampleHouse(), 3, person(5, 't', 0, 2, 2, 1))
	wantStep(t, third, "who 5", impl.ScriptResult{Group: third, Said: "there 2 1"})
	// Of 60 the first who is done is forgotten: nobody has that Id any more.
	full := freshGroup(greatestHouse(), 3)
	full.Ledger = doneAt(fullLedger(), impl.StateThere, 30)
	id := fmt.Sprint("who ", full.Ledger.People[30].Id)
	wantStep(t, full, id, plainStep(full, id))
	wantStepCode(t, impl.StepScript(full, "call 0 1").Group, id, impl.ErrNone)
}

func TestCountOfAScript(t *testing.T) {
	rows := []struct {
		g    impl.Group
		said string
	}{
		{freshGroup(exampleHouse(), 1), "count 0 0 0 0 0"},
		{storyGroup(), "count 2 3 1 1 1"},
		{recalled(withTick(storyGroup(), big1)), "count 2 3 1 1 1"},
		{freshGroup(exampleHouse(), 1, person(1, 'w', 0, 1, 0, 0)), "count 1 0 0 0 0"},
		{freshGroup(exampleHouse(), 1, person(1, 'r', 0, 1, 0, 0)), "count 0 1 0 0 0"},
		{freshGroup(exampleHouse(), 1, crowd(60, 1, person(0, 't', 0, 1, 0, 0))...), "count 0 0 60 0 0"},
		{freshGroup(exampleHouse(), 1, crowd(59, 1, person(0, 'o', 0, 1, 0, 0))...), "count 0 0 0 59 0"},
		{freshGroup(exampleHouse(), 1, crowd(12, 1, person(0, 'g', 0, 1, 0, 0))...), "count 0 0 0 0 12"},
	}
	for _, r := range rows {
		wantStep(t, r.g, "count", impl.ScriptResult{Group: r.g, Said: r.said})
	}
}

// A script of the example, from the first call to the last recall.
func TestScriptByHand(t *testing.T) {
	g := impl.NewGroup(exampleHouse(), 1).Group
	rows := []struct{ line, said string }{
		{"count", "count 0 0 0 0 0"},
		{"call 0 2", "id 1"},
		{"who 1", "waits 0 0"},
		{"", ""},
		{"tick 2", "tick 2"},
		{"who 1", "rides 0 0"},
		{"call 2 0", "id 2"},
		{"who 2", "waits 0 1"},
		{"call 2 2", "! 1"},
		{"call 2 3", "! 3"},
		{"  ", ""},
		{"who 3", "! 4"},
		{"what", "! 5"},
		{"tick 501", "! 3"},
		{"count", "count 1 1 0 0 0"},
		{"restart", "ok"},
		{"settle 20000", "settled 74"},
		{"who 1", "there 0 0"},
		{"who 2", "there 0 1"},
		{"tick 0", "tick 76"},
		{"call 1 2", "id 3"},
		{"drop", "ok"},
		{"who 3", "gone 0 1"},
		{"recall", "ok"},
		{"call 1 2", "! 8"},
		{"resume", "ok"},
		{"call 1 2", "id 4"},
		{"tick 30", "tick 106"},
		{"recall", "ok"},
		{"settle 500", "settled 4"},
		{"count", "count 0 0 2 1 1"},
	}
	script, said := "", ""
	for i, r := range rows {
		script += r.line + "\n"
		if r.said != "" {
			said += r.said + "\n"
		}
		got := impl.RunScript(g, script)
		if got.Code != impl.OK || got.Said != said {
			t.Fatalf("line %d, %q: %d, %s, not\n%s", i, r.line, got.Code, got.Said, said)
		}
		wantScripted(t, "RunScript without the last line feed", g, impl.RunScript(g, strings.TrimSuffix(script, "\n")), got)
	}
}

func wantRun(t *testing.T, g impl.Group, text, said string, then impl.Group) {
	t.Helper()
	wantScripted(t, fmt.Sprintf("RunScript %q", text), g, impl.RunScript(g, text), impl.ScriptResult{Group: then, Said: said})
}

func TestLinesOfAScript(t *testing.T) {
	g := storyGroup()
	counted, ok := "count 2 3 1 1 1\n", impl.StepScript(g, "restart").Group
	rows := []struct {
		text, said string
		then       impl.Group
	}{
		{"", "", g},
		{"\n", "", g},
		{"\n\n\n", "", g},
		{" ", "", g},
		{" \n  \n", "", g},
		{"count", counted, g},
		{"count\n", counted, g},
		{"\ncount", counted, g},
		{"\n\ncount\n\n", counted, g},
		{" \ncount\n   ", counted, g},
		{"count\ncount", counted + counted, g},
		{"count\ncount\n", counted + counted, g},
		{"count\n\n\ncount\n", counted + counted, g},
		{"count\r\ncount\r\n", "! 5\n! 5\n", g},
		{"count\rcount\n", "! 5\n", g},
		{"count\tcount\n", "! 5\n", g},
		{"count count\n", "! 5\n", g},
		{"\t\n", "! 5\n", g},
		{"\x00\n\xff\n", "! 5\n! 5\n", g},
		{"restart", "ok\n", ok},
		{"restart\n!\n", "ok\n! 5\n", ok},
		{"!\nrestart\n", "! 5\nok\n", ok},
		{"who 99\nrestart\nwho 98\ncount\n", "! 4\nok\n! 4\n" + counted, ok},
		{"tick 0\ntick 501\ntick 0", "tick 9\n! 3\ntick 9\n", g},
		{"settle 20001\nsettle 0\n", "! 3\nsettled 0\n", g},
		{"call 2 2\ncall 2 7\ncall 2\n", "! 1\n! 3\n! 5\n", g},
	}
	for _, r := range rows {
		wantRun(t, g, r.text, r.said, r.then)
	}
}

// A line with a code leaves the group as it was ahead of it, not as it was when
// the code came up, and those behind it go on from there.
func TestLinesBehindACode(t *testing.T) {
	h := exampleHouse()
	ride := freshGroup(h, 1, person(1, 'w', 0, 2, 0, 0))
	late := withTick(ride, big1-20)
	wantRun(t, late, "tick 21", "! 2\n", late)
	wantRun(t, late, "settle 21", "! 2\n", late)
	wantRun(t, late, "tick 21\nwho 1\ntick 20\n", "! 2\nwaits 0 0\ntick 1000000000000000\n", after(t, late, 20, 0, 0))
	wantRun(t, late, "settle 29\nwho 1\ntick 1\ntick 20\ntick 2\ntick 19\ntick 1\ntick 0", "! 2\nwaits 0 0\ntick 999999999999981\n! 2\ntick 999999999999983\n! 2\ntick 999999999999984\ntick 999999999999984\n", after(t, late, 4, 0, 0))
	full := busyGroup(h)
	wantRun(t, full, "call 0 1\ncount\ndrop\ncall 0 1\ncount\nrecall\ncall 0 1\nresume\ncall 0 1\n",
		"! 7\ncount 4 0 0 0 0\nok\nid 5\ncount 1 0 0 0 4\nok\n! 8\nok\nid 6\n", plainRun(full, "drop\ncall 0 1\nrecall\nresume\ncall 0 1").Group)
	down := recalled(freshGroup(h, 1))
	wantRun(t, down, "call 0 1\ncall 0 1\ncall 0 1", "! 8\n! 8\n! 8\n", down)
	packed := packedGroup()
	wantRun(t, packed, "call 0 1\nwho 1000\n", "! 2\n! 4\n", packed)
}

func TestScriptsOfAllBytes(t *testing.T) {
	g := storyGroup()
	refused := impl.ScriptResult{Code: impl.ErrMany}
	rows := []struct {
		name, text string
		want       impl.ScriptResult
	}{
		{"3000 blanks", strings.Repeat(" ", 3000), impl.ScriptResult{Group: g}},
		{"3001 blanks", strings.Repeat(" ", 3001), refused},
		{"a word in 3000 bytes", strings.Repeat(" ", 2995) + "count", impl.ScriptResult{Group: g, Said: "count 2 3 1 1 1\n"}},
		{"a word in 3001 bytes", strings.Repeat(" ", 2996) + "count", refused},
		{"a line feed as the byte 3000", strings.Repeat(" ", 2999) + "\n", impl.ScriptResult{Group: g}},
		{"a line feed as the byte 3001", strings.Repeat(" ", 3000) + "\n", refused},
		{"3000 bytes that are no words", strings.Repeat("x", 3000), impl.ScriptResult{Group: g, Said: "! 5\n"}},
		{"3001 bytes that are no words", strings.Repeat("x", 3001), refused},
		{"3000 bytes of 1500 runes", strings.Repeat("é", 1500), impl.ScriptResult{Group: g, Said: "! 5\n"}},
		{"3002 bytes of 1501 runes", strings.Repeat("é", 1501), refused},
		{"1500 words", strings.Repeat("x ", 1500), impl.ScriptResult{Group: g, Said: "! 5\n"}},
		{"80 line feeds", strings.Repeat("\n", 80), impl.ScriptResult{Group: g}},
		{"81 line feeds", strings.Repeat("\n", 81), refused},
		{"80 line feeds and a blank", strings.Repeat("\n", 80) + " ", refused},
		{"79 line feeds and a blank", strings.Repeat("\n", 79) + " ", impl.ScriptResult{Group: g}},
		{"79 line feeds and a word", strings.Repeat("\n", 79) + "count", impl.ScriptResult{Group: g, Said: "count 2 3 1 1 1\n"}},
		{"79 line feeds, a word and a line feed", strings.Repeat("\n", 79) + "count\n", impl.ScriptResult{Group: g, Said: "count 2 3 1 1 1\n"}},
		{"80 line feeds and a word", strings.Repeat("\n", 80) + "count", refused},
		{"80 lines", strings.Repeat("tick 0\n", 80), impl.ScriptResult{Group: g, Said: strings.Repeat("tick 9\n", 80)}},
		{"81 lines", strings.Repeat("tick 0\n", 81), refused},
		{"81 lines, the last without a line feed", strings.Repeat("tick 0\n", 80) + "x", refused},
		{"80 lines that are none", strings.Repeat("x\n", 80), impl.ScriptResult{Group: g, Said: strings.Repeat("! 5\n", 80)}},
		{"80 lines of 3000 bytes", strings.Repeat("x\n", 79) + strings.Repeat("x", 2842), impl.ScriptResult{Group: g, Said: strings.Repeat("! 5\n", 80)}},
		{"3000 line feeds", strings.Repeat("\n", 3000), refused},
		{"a great text", strings.Repeat("count\n", 100000), refused},
	}
	for _, r := range rows {
		wantScripted(t, r.name, g, impl.RunScript(g, r.text), r.want)
	}
}

// textLine is one that can be read, mostly, for a house of so many floors.
func (d *dice) textLine(floors int64) string {
	words := []string{"restart", "drop", "recall", "resume", "resume", "count", "count", "", " "}
	odd := []string{"!", "call 0", "tick", "tick -1", "Count", "who x", "settle 20001", "tick 501", "who 999", "call 1 1", "call 0 12", "count\r", "\t"}
	switch n := d.upTo(0, 19); {
	case n < 7:
		return fmt.Sprint("call ", d.upTo(0, floors-1), " ", d.upTo(0, floors-1))
	case n < 11:
		return fmt.Sprint("tick ", d.upTo(0, 30))
	case n < 12:
		return fmt.Sprint("settle ", d.upTo(0, 3)*d.upTo(0, 100))
	case n < 14:
		return fmt.Sprint("who ", d.upTo(0, 30))
	case n < 18:
		return words[d.upTo(0, int64(len(words))-1)]
	}
	return odd[d.upTo(0, int64(len(odd))-1)]
}

func (d *dice) text(floors int64, lines int64) string {
	text := ""
	for range lines {
		text += d.textLine(floors) + "\n"
	}
	if d.upTo(0, 2) == 0 {
		text = strings.TrimSuffix(text, "\n")
	}
	return text
}

// holdsCut holds that a text which is cut behind any line feed does in two parts
// what it does in one.
func holdsCut(t *testing.T, g impl.Group, text string) {
	t.Helper()
	whole := impl.RunScript(g, text)
	if whole.Code != impl.OK {
		t.Fatalf("RunScript %q is %+v", text, whole)
	}
	for i := range text {
		if text[i] != '\n' {
			continue
		}
		first := impl.RunScript(g, text[:i+1])
		second := impl.RunScript(first.Group, text[i+1:])
		two := impl.ScriptResult{Code: first.Code + second.Code, Group: second.Group, Said: first.Said + second.Said}
		wantScripted(t, fmt.Sprintf("%q, cut at %d", text, i), g, two, whole)
	}
}

// Promise 10, its second half.
func TestScriptsThatAreCut(t *testing.T) {
	d := &dice{state: 4}
	for _, h := range groupHouses() {
		for shafts := range int64(3) {
			for _, lines := range []int64{1, 2, 10, 25} {
				holdsCut(t, impl.NewGroup(h, shafts+1).Group, d.text(h.Floors, lines))
			}
			g := d.group(h, 20)
			holdsCut(t, g, d.text(h.Floors, 12))
		}
	}
	for _, text := range []string{"\n", "\n\n", "count\n", "\ncount", "!\n!\n", "tick 500\ntick 500\n", "call 0 1\n\n \ncall 1 0"} {
		holdsCut(t, storyGroup(), text)
		holdsCut(t, withTick(storyGroup(), big1-700), text)
	}
	holdsCut(t, impl.NewGroup(exampleHouse(), 2).Group, d.text(3, 80))
}

func wantFormat(t *testing.T, name string, g impl.Group, lines ...string) {
	t.Helper()
	want := ""
	for _, line := range lines {
		want += line + "\n"
	}
	if got := impl.FormatGroup(g); got != want {
		t.Errorf("%s: FormatGroup is\n%q, not\n%q", name, got, want)
	}
}

func TestFormatByHand(t *testing.T) {
	h := exampleHouse()
	lower, upper := "lower 0 0 0 0 0", "upper 800 0 0 2 2"
	wantFormat(t, "one deck", freshGroup(h, 1), "tick 0 0", lower, upper)
	wantFormat(t, "two decks", freshGroup(h, 2), "tick 0 0", lower, upper, lower, upper)
	wantFormat(t, "three decks", freshGroup(h, 3), "tick 0 0", lower, upper, lower, upper, lower, upper)
	wantFormat(t, "in Recall", recalled(freshGroup(h, 1)), "tick 0 1", lower, upper)
	wantFormat(t, "a late Tick", withTick(freshGroup(h, 1), 1234567), "tick 1234567 0", lower, upper)
	wantFormat(t, "the last Tick, in Recall", recalled(withTick(freshGroup(h, 1), big1)), "tick 1000000000000000 1", lower, upper)
	wantFormat(t, "a story", storyGroup(), "tick 9 0",
		"lower 0 0 2 0 0", "upper 800 0 1 2 2", "lower 100 30 0 0 1", "upper 800 0 0 2 3",
		"person 1 0 2 waits", "person 2 0 1 rides", "person 3 0 2 there", "person 4 1 2 waits",
		"person 6 0 2 out", "person 7 0 2 gone", "person 9 2 0 rides", "person 12 0 1 rides")
	below := deckOf(phased{-101, -20, 0, 'g'}, phased{701, -50, 0, 'g'}, spansOf(-1, -1, 1, 3))
	wantFormat(t, "below 0", withDecks(freshGroup(h, 1), below), "tick 0 0", "lower -101 -20 0 -1 -1", "upper 701 -50 0 1 3")
	both := deckOf(phased{-300, 0, 2, 's'}, phased{-1, -10, 0, 'g'}, spansOf(-1, 0, 1, 1))
	wantFormat(t, "both below 0", withDecks(freshGroup(h, 1), heldDeck(both)), "tick 0 0", "lower -300 0 2 -1 0", "upper -1 -10 0 1 1")
	far := deckOf(phased{0, 0, 0, 'g'}, phased{1252, 0, 0, 'g'}, spansOf(0, 0, 3, 3))
	wantFormat(t, "far up", withDecks(freshGroup(h, 1), far, below), "tick 0 0", "lower 0 0 0 0 0", "upper 1252 0 0 3 3", "lower -101 -20 0 -1 -1", "upper 701 -50 0 1 3")
	late := freshGroup(h, 1, person(big1-1, 'g', 2, 1, 0, 0))
	late.Ledger.Next = big1
	wantFormat(t, "a late Id", late, "tick 0 0", lower, upper, "person 999999999999999 2 1 gone")
}

// Several people in each state, one line each, in their order.
func TestFormatOfManyPeople(t *testing.T) {
	d := &dice{state: 15}
	for _, most := range []int64{1, 5, 20, 60} {
		g := d.group(greatestHouse(), most)
		if got, want := impl.FormatGroup(g), plainFormat(g); got != want {
			t.Errorf("FormatGroup is\n%s, not\n%s", got, want)
		}
		lines := strings.Split(impl.FormatGroup(g), "\n")
		if len(lines) != 2+2*len(g.Decks)+len(g.Ledger.People) || lines[len(lines)-1] != "" {
			t.Errorf("%d lines of %d decks and %d people", len(lines), len(g.Decks), len(g.Ledger.People))
		}
	}
}

func TestWatchByHand(t *testing.T) {
	h := exampleHouse()
	apart := heldDeck(deckOf(phased{700, -30, 0, 'g'}, phased{800, 0, 0, 'g'}, spansOf(0, 1, 2, 3)))
	there := freshGroup(h, 1, person(1, 'r', 0, 1, 0, 0), person(2, 'w', 1, 0, 0, 0))
	near := freshGroup(h, 1, person(1, 'w', 1, 0, 0, 0))
	rows := []struct {
		name         string
		g            impl.Group
		ticks        int64
		least, there int64
	}{
		{"nobody, no ticks", freshGroup(h, 1), 0, 700, 0},
		{"nobody", freshGroup(h, 1), 2000, 700, 0},
		{"the least at the beginning", withDecks(freshGroup(h, 1), apart), 0, 0, 0},
		{"the least at the beginning, a tick", withDecks(freshGroup(h, 1), apart), 1, 0, 0},
		{"the least at the beginning, more ticks", withDecks(freshGroup(h, 1), apart), 30, 0, 0},
		{"the least at the end, a tick", near, 1, 690, 0},
		{"the least at the end, two ticks", near, 2, 660, 0},
		{"the least at the end, three ticks", near, 3, 610, 0},
		{"the least in between, both are there", there, 100, 300, 2},
		{"the least so far, one is there", there, 20, 300, 1},
		{"another shaft has the least", withDecks(freshGroup(h, 1), freshDeck(h), apart, freshDeck(h)), 3, 0, 0},
		{"the first shaft has the least", withDecks(freshGroup(h, 1), apart, freshDeck(h)), 3, 0, 0},
		{"the last shaft has the least", withDecks(near, freshDeck(h), freshDeck(h), apart), 2, 0, 0},
		{"some were there already", freshGroup(h, 1, person(1, 't', 0, 1, 0, 0), person(2, 'o', 0, 1, 0, 0), person(3, 't', 0, 1, 0, 1), person(4, 'g', 0, 1, 0, 1)), 5, 700, 2},
		{"in Recall nobody is there", recalled(freshGroup(h, 1, person(1, 'r', 2, 0, 0, 0))), 100, 700, 0},
	}
	for _, r := range rows {
		want := impl.WatchResult{Least: r.least, There: r.there, Group: after(t, r.g, r.ticks, 0, 0)}
		wantWatched(t, r.name, r.g, impl.WatchGroup(r.g, r.ticks, 0, 0), want)
	}
	end := impl.WatchGroup(there, 100, 0, 0).Group
	if spare := impl.SpareOf(h, end.Decks[0].Shaft).Value; spare != 700 {
		t.Errorf("the least was not in between: at the end it is %d", spare)
	}
}

func TestBoundsOfWatching(t *testing.T) {
	h := driftHouse() // Drift 4
	g := withDecks(freshGroup(h, 2, person(1, 'r', 0, 1, 0, 0), person(2, 'r', 2, 1, 1, 1)), freshDeck(h), freshDeck(h))
	for _, ticks := range []int64{0, 1, 7, 2000} {
		for _, drifts := range [][2]int64{{-4, 0}, {0, -4}, {4, 0}, {0, 4}, {4, -4}, {-4, 4}, {4, 4}, {-4, -4}, {0, 0}, {1, -2}} {
			name := fmt.Sprint("WatchGroup for ", ticks, " by ", drifts)
			got := impl.WatchGroup(g, ticks, drifts[0], drifts[1])
			wantWatched(t, name, g, got, plainWatch(g, ticks, drifts[0], drifts[1]))
			if got.Code != impl.OK || !sameGroups(got.Group, after(t, g, ticks, drifts[0], drifts[1])) {
				t.Errorf("%s is %+v", name, got)
			}
		}
		for _, wrong := range outside(-4, 4) {
			refused := impl.WatchResult{Code: impl.ErrRange}
			wantWatched(t, "a drift of the lower car beyond", g, impl.WatchGroup(g, ticks, wrong, 0), refused)
			wantWatched(t, "a drift of the upper car beyond", g, impl.WatchGroup(g, ticks, 4, wrong), refused)
			wantWatched(t, "a drift beyond ahead of the end of time", g, impl.WatchGroup(withTick(g, big1), ticks, wrong, 0), refused)
		}
	}
	for _, ticks := range outside(0, 2000) {
		refused := impl.WatchResult{Code: impl.ErrRange}
		wantWatched(t, "ticks beyond", g, impl.WatchGroup(g, ticks, 0, 0), refused)
		wantWatched(t, "ticks beyond ahead of the end of time", g, impl.WatchGroup(withTick(g, big1), ticks, 4, -4), refused)
	}
	still := freshGroup(exampleHouse(), 1)
	for _, drift := range []int64{-1, 1} {
		wantWatched(t, "no drift at all", still, impl.WatchGroup(still, 5, drift, 0), impl.WatchResult{Code: impl.ErrRange})
		wantWatched(t, "no drift at all", still, impl.WatchGroup(still, 0, 0, drift), impl.WatchResult{Code: impl.ErrRange})
	}
}

func TestWatchAtTheEndOfTime(t *testing.T) {
	for _, g := range []impl.Group{freshGroup(exampleHouse(), 2), storyGroup(), recalled(storyGroup())} {
		for _, left := range []int64{0, 1, 2, 50, 1999, 2000, 2001} {
			g.Tick = big1 - left
			for _, ticks := range []int64{0, 1, 2, 3, 50, 51, 1999, 2000} {
				got := impl.WatchGroup(g, ticks, 0, 0)
				if ticks > left {
					wantWatched(t, "too late", g, got, impl.WatchResult{Code: impl.ErrMany})
				} else if got.Code != impl.OK || got.Group.Tick != g.Tick+ticks {
					t.Errorf("%d ticks ahead of the end, %d ticks: %+v", left, ticks, got)
				}
			}
		}
	}
}

// In each tick, and whichever shaft it is, the least that was seen is told.
func TestWatchIsTheLeastOfAll(t *testing.T) {
	d := &dice{state: 31}
	for range 60 {
		h := d.house()
		g := d.group(h, 12)
		g.Tick = 0
		driftL, driftU := d.upTo(-h.Drift, h.Drift), d.upTo(-h.Drift, h.Drift)
		least, now := slices.Min(sparesOf(g)), g
		for ticks := range int64(40) {
			least = min(least, slices.Min(sparesOf(now)))
			if got := impl.WatchGroup(g, ticks, driftL, driftU); got.Code != impl.OK || got.Least != least || !sameGroups(got.Group, now) {
				t.Fatalf("%+v: WatchGroup for %d by %d, %d is %+v, not %d", g, ticks, driftL, driftU, got, least)
			}
			now = after(t, now, 1, driftL, driftU)
		}
	}
}

// refusesScript holds all functions against one code, with all else zero, and
// whatever else they are given.
func refusesScript(t *testing.T, name string, g impl.Group, code int64) {
	t.Helper()
	wantGroupFault(t, name, g, code)
	lines := []string{"", " ", "count", "call 0 1", "call 0 0", "tick 1", "tick 501", "settle 0", "settle 20001", "restart", "drop", "recall", "resume", "who 1", "who 99", "!", "\n", "count\n", "\xff"}
	for _, line := range lines {
		wantScripted(t, name, g, impl.StepScript(g, line), impl.ScriptResult{Code: code})
		wantScripted(t, name, g, impl.RunScript(g, line), impl.ScriptResult{Code: code})
	}
	for _, text := range []string{strings.Repeat(" ", 3001), strings.Repeat("\n", 81), strings.Repeat("count\n", 9)} {
		wantScripted(t, name, g, impl.RunScript(g, text), impl.ScriptResult{Code: code})
	}
	for _, n := range []int64{least, -1, 0, 1, 2000, 2001, greatest} {
		for _, drift := range []int64{least, -1, 0, 1, greatest} {
			wantWatched(t, name, g, impl.WatchGroup(g, n, drift, 0), impl.WatchResult{Code: code})
			wantWatched(t, name, g, impl.WatchGroup(g, n, 0, drift), impl.WatchResult{Code: code})
		}
	}
	if got := impl.FormatGroup(g); got != "" {
		t.Errorf("%s: FormatGroup is %q", name, got)
	}
}

func TestScriptsOfGroupsWithFaults(t *testing.T) {
	h := exampleHouse()
	rows := []struct {
		name string
		g    impl.Group
		code int64
	}{
		{"a house too near", freshGroup(nearHouse(), 1), impl.ErrForm},
		{"a house out of its bounds", freshGroup(outHouse(), 1), impl.ErrRange},
		{"nothing", impl.Group{}, impl.ErrRange},
		{"no decks", freshGroup(h, 0), impl.ErrMany},
		{"four decks", freshGroup(h, 4), impl.ErrMany},
		{"no ledger", impl.Group{House: h, Decks: []impl.Deck{freshDeck(h)}}, impl.ErrRange},
		{"too many people", freshGroup(h, 1, crowd(61, 1, someone(0))...), impl.ErrMany},
		{"too many wait", freshGroup(h, 1, crowd(5, 1, person(0, 'w', 1, 2, 0, 0))...), impl.ErrMany},
		{"from a floor to itself", freshGroup(h, 1, person(1, 'w', 1, 1, 0, 0)), impl.ErrForm},
		{"a State beyond", freshGroup(h, 1, impl.Person{Id: 1, To: 1, State: 5}), impl.ErrRange},
		{"a person of no deck", freshGroup(h, 2, person(1, 'w', 1, 2, 2, 0)), impl.ErrForm},
		{"Tick -1", withTick(freshGroup(h, 1), -1), impl.ErrRange},
		{"Tick above MaxBig", withTick(freshGroup(h, 1), big1+1), impl.ErrRange},
	}
	for _, f := range deckFaults() {
		g := withDecks(freshGroup(h, 1, person(1, 'w', 1, 2, 0, 0)), freshDeck(h), turnedDeck(f.turn))
		refusesScript(t, f.name, g, f.code)
		refusesScript(t, f.name+", in Recall", recalled(g), f.code)
	}
	for _, r := range rows {
		refusesScript(t, r.name, r.g, r.code)
		refusesScript(t, r.name+", in Recall", recalled(r.g), r.code)
	}
}

// scriptCalls are all that tells a group, with what does and what does not change it.
func scriptCalls() []groupCall {
	var calls []groupCall
	for _, line := range []string{"", "  ", "count", "call 1 0", "tick 0", "tick 30", "settle 0", "settle 90", "restart", "drop", "recall", "resume"} {
		calls = append(calls,
			groupCall{"StepScript " + line, func(g impl.Group) impl.GroupResult {
				r := impl.StepScript(g, line)
				return impl.GroupResult{Code: r.Code, Group: r.Group}
			}},
			groupCall{"RunScript " + line, func(g impl.Group) impl.GroupResult {
				r := impl.RunScript(g, line+"\n"+line)
				return impl.GroupResult{Code: r.Code, Group: r.Group}
			}})
	}
	for _, text := range []string{"", "\n", "!\n", "who 999999\n!", "count\n!\n", "tick 501"} {
		calls = append(calls, groupCall{"RunScript " + text, func(g impl.Group) impl.GroupResult {
			r := impl.RunScript(g, text)
			return impl.GroupResult{Code: r.Code, Group: r.Group}
		}})
	}
	for _, ticks := range []int64{0, 1, 30} {
		calls = append(calls, groupCall{fmt.Sprint("WatchGroup for ", ticks), func(g impl.Group) impl.GroupResult {
			r := impl.WatchGroup(g, ticks, 0, 0)
			return impl.GroupResult{Code: r.Code, Group: r.Group}
		}})
	}
	return calls
}

func TestScriptsShareNoMemory(t *testing.T) {
	calls := append(scriptCalls(), groupCall{"StepScript who", func(g impl.Group) impl.GroupResult {
		if len(g.Ledger.People) == 0 {
			return impl.GroupResult{Group: ownGroup(g)}
		}
		r := impl.StepScript(g, fmt.Sprint("who ", g.Ledger.People[0].Id))
		return impl.GroupResult{Code: r.Code, Group: r.Group}
	}})
	for _, f := range calls {
		for i, g := range groupsForMemory() {
			all := roomOf(g)
			before := ownGroup(all)
			first, second := f.call(g), f.call(g)
			kept := ownGroup(second.Group)
			if first.Code != impl.OK || !sameGroups(all, before) || len(first.Group.Decks) != len(g.Decks) {
				t.Errorf("%s of group %d changes its argument, or tells %d", f.name, i, first.Code)
			}
			spoilGroup(first.Group)
			if !sameGroups(all, before) || !sameGroups(second.Group, kept) {
				t.Errorf("%s of group %d: its answer is its argument's memory, or another answer's", f.name, i)
			}
			spoilGroup(all)
			if !sameGroups(second.Group, kept) {
				t.Errorf("%s of group %d: its answer shares memory: %+v", f.name, i, second)
			}
		}
	}
}

// What has a code, and what only tells, changes no argument either.
func TestScriptsChangeNoArgument(t *testing.T) {
	for i, g := range groupsForMemory() {
		all := roomOf(g)
		before := ownGroup(all)
		for _, line := range append(unreadableLines(), "who 0", "call 0 0", "call 0 99", "tick 501", "settle 20001") {
			impl.StepScript(g, line)
			impl.RunScript(g, line)
		}
		impl.FormatGroup(g)
		impl.WatchGroup(g, 2001, 0, 0)
		late := withTick(g, big1-3)
		impl.StepScript(late, "tick 5")
		impl.RunScript(late, "tick 2\ntick 5\nsettle 7\n")
		impl.WatchGroup(late, 5, 0, 0)
		if !sameGroups(all, before) {
			t.Errorf("group %d was changed", i)
		}
	}
}

func TestScriptsOfNoPeopleAndNoDecks(t *testing.T) {
	for _, h := range append(groupHouses(), nearHouse(), outHouse()) {
		for _, shafts := range []int{0, 1, 3} {
			none, empty := freshGroup(h, shafts), freshGroup(h, shafts)
			empty.Ledger.People = fullLedger().People[:0]
			if shafts == 0 {
				empty.Decks = freshGroup(h, 2).Decks[:0]
			}
			for _, f := range scriptCalls() {
				if a, b := f.call(none), f.call(empty); !sameGrouped(a, b) {
					t.Errorf("%s of nil is %+v, of an empty list %+v", f.name, a, b)
				}
			}
			if a, b := impl.FormatGroup(none), impl.FormatGroup(empty); a != b {
				t.Errorf("nil is %q, an empty list %q", a, b)
			}
		}
	}
}

// holdsScripts asks of one group all functions, and holds that it stays as it was.
func holdsScripts(t *testing.T, d *dice, g impl.Group) {
	t.Helper()
	before, h := ownGroup(g), g.House
	floors := max(2, min(h.Floors, 12))
	for range 4 {
		line := d.textLine(floors)
		wantStep(t, g, line, plainStep(g, line))
	}
	text := d.text(floors, d.upTo(0, 8))
	wantScripted(t, fmt.Sprintf("RunScript %q", text), g, impl.RunScript(g, text), plainRun(g, text))
	if got, want := impl.FormatGroup(g), plainFormat(g); got != want {
		t.Fatalf("FormatGroup of %+v is\n%s, not\n%s", g, got, want)
	}
	for _, drift := range []int64{-h.Drift, 0, h.Drift, -h.Drift - 1, h.Drift + 1} {
		ticks := []int64{-1, 0, 1, 5, 20, 2001}[d.upTo(0, 5)]
		wantWatched(t, "WatchGroup", g, impl.WatchGroup(g, ticks, drift, 0), plainWatch(g, ticks, drift, 0))
		wantWatched(t, "WatchGroup", g, impl.WatchGroup(g, ticks, -drift, drift), plainWatch(g, ticks, -drift, drift))
	}
	if !sameGroups(g, before) {
		t.Fatalf("%+v was changed to %+v", before, g)
	}
}

// Groups of all kinds, without and with faults, under lines of all kinds.
func TestScriptsOfAllKinds(t *testing.T) {
	d := &dice{state: 9}
	for _, h := range groupHouses() {
		for _, most := range []int64{0, 2, 9, 60} {
			for range 8 {
				g := d.group(h, most)
				holdsScripts(t, d, g)
				for range 2 {
					g = d.spoiledGroup(g)
					holdsScripts(t, d, g)
				}
			}
		}
		for _, house := range []impl.House{nearHouse(), outHouse(), {}} {
			g := d.group(h, 5)
			g.House = house
			holdsScripts(t, d, g)
		}
	}
}

// holdsSpare holds of one group that all its cars have spare room: they can stop
// apart, and within the shaft.
func holdsSpare(t *testing.T, g impl.Group) {
	t.Helper()
	for i, d := range g.Decks {
		spare := impl.SpareOf(g.House, d.Shaft)
		if spare.Code != impl.OK || spare.Value < 0 || d.Shaft.Upper.Pos-d.Shaft.Lower.Pos < g.House.Length {
			t.Fatalf("%+v: shaft %d has %+v to spare", g, i, spare)
		}
	}
}

// watched is a new group that is watched for some ticks, told a line, watched
// again, and so on, with drifts that hold as long as it is watched.
func watched(t *testing.T, h impl.House, shafts int64, d *dice, drifts bool, rounds int) {
	t.Helper()
	g := impl.NewGroup(h, shafts).Group
	for range rounds {
		for range d.upTo(0, 4) {
			if r := impl.StepScript(g, d.textLine(h.Floors)); r.Code == impl.OK {
				g = r.Group
				holdsSpare(t, g)
			}
		}
		driftL, driftU := int64(0), int64(0)
		if drifts {
			driftL, driftU = d.upTo(-1, 1)*h.Drift, d.upTo(-1, 1)*h.Drift
		}
		ticks := d.upTo(0, 60)
		r := impl.WatchGroup(g, ticks, driftL, driftU)
		if r.Code != impl.OK || r.Least < 0 || r.Group.Tick != g.Tick+ticks {
			t.Fatalf("%+v: WatchGroup for %d by %d, %d is %+v", g, ticks, driftL, driftU, r)
		}
		for range ticks {
			g = impl.TickGroup(g, driftL, driftU).Group
			holdsSpare(t, g)
		}
		if !sameGroups(g, r.Group) || r.Least > slices.Min(sparesOf(g)) {
			t.Fatalf("WatchGroup for %d by %d, %d is %+v, not %+v", ticks, driftL, driftU, r, g)
		}
	}
}

// Promise 10, its first half, over long walks.
func TestWatchedGroupsHaveSpareRoom(t *testing.T) {
	for i, h := range append(groupHouses(), heavyHouse()) {
		for shafts := range int64(3) {
			for _, drifts := range []bool{false, true} {
				watched(t, h, shafts+1, &dice{state: uint64(i)*10 + uint64(shafts)}, drifts, 60)
			}
		}
	}
	d := &dice{state: 44}
	for range 100 {
		h := d.house()
		watched(t, h, d.upTo(1, 3), d, false, 8)
		watched(t, h, d.upTo(1, 3), d, true, 8)
	}
}

// Cars that are called to each other, apart and both to one end, and that the
// hardest drifts take there, for as long as they may be watched.
func TestHardDriftsLeaveSpareRoom(t *testing.T) {
	for _, h := range append(groupHouses(), heavyHouse()) {
		top, drift := h.Floors-1, h.Drift
		scripts := []string{
			fmt.Sprintf("call 0 %d\ncall %d 0\n", top, top), fmt.Sprintf("call %d 0\ncall 0 %d\n", top, top),
			fmt.Sprintf("call 0 %d\ncall 0 %d\n", top, top), fmt.Sprintf("call %d 0\ncall %d 0\n", top, top),
		}
		for _, script := range scripts {
			g := impl.RunScript(impl.NewGroup(h, 1).Group, script).Group
			for _, blown := range [][2]int64{{1, -1}, {-1, 1}, {1, 1}, {-1, -1}, {1, 0}, {0, -1}} {
				r := impl.WatchGroup(g, 2000, blown[0]*drift, blown[1]*drift)
				if r.Code != impl.OK || r.Least < 0 || impl.GroupFault(r.Group) != impl.OK {
					t.Fatalf("%+v: by %v: %+v", g, blown, r)
				}
			}
		}
	}
}

// scriptAnswersEverywhere tells answers as texts, since lists are not compared.
func scriptAnswersEverywhere() []string {
	var list []string
	numbers := []int64{least, -1, 0, 1, 3, big1, greatest}
	lines := []string{"", "\n", "!", "count", "call 0 1", "tick 2", "settle 9", "who 1", "restart", "drop", "recall", "resume", "call 9 9\ncount\n"}
	for _, h := range housesOfAllKinds() {
		for _, a := range numbers {
			for _, b := range numbers {
				c := impl.Car{Pos: a, Vel: b, Door: a}
				odd := impl.Deck{Shaft: impl.Shaft{Lower: c, Upper: c}, Spans: spansOf(a, b, a, b), PhaseL: b, PhaseU: a}
				groups := []impl.Group{
					{House: h, Decks: []impl.Deck{odd}, Ledger: impl.Ledger{Next: a}, Tick: b},
					withTick(freshGroup(h, 2, impl.Person{Id: 1, From: 1, Shaft: a, Car: b}), 7),
					withTick(freshGroup(h, 1, impl.Person{Id: 1, From: 1, State: a, At: b}), a),
				}
				for _, g := range groups {
					list = append(list, impl.FormatGroup(g), impl.StateWord(a), fmt.Sprint(impl.WatchGroup(g, a, b, a), impl.WatchGroup(g, 3, 0, 0)))
					for _, line := range lines {
						list = append(list, fmt.Sprint(impl.StepScript(g, line), impl.RunScript(g, line)))
					}
				}
			}
		}
	}
	return list
}

// Every call of chapter 9 answers whatever it is given, and the same again when
// other calls stood between.
func TestScriptAnswersEverywhere(t *testing.T) {
	sameTwice(t, scriptAnswersEverywhere)
}
