package tests

import (
	"fmt"
	"regexp"
	"runtime"
	"slices"
	"strings"
	"testing"
	"time"

	"loop.example/g00155/impl"
)

// What the document tells of what was seen, worked out the plain way: what
// happened to somebody is a row of letters, and a line is read by one pattern.

func calls(tick, id, floor, to int64) impl.Event {
	return impl.Event{Tick: tick, Kind: impl.EventCall, Id: id, Floor: floor, To: to}
}

func boards(tick, id, floor int64) impl.Event {
	return impl.Event{Tick: tick, Kind: impl.EventBoard, Id: id, Floor: floor}
}

func arrives(tick, id, floor int64) impl.Event {
	return impl.Event{Tick: tick, Kind: impl.EventThere, Id: id, Floor: floor}
}

func getsOut(tick, id, floor int64) impl.Event {
	return impl.Event{Tick: tick, Kind: impl.EventOut, Id: id, Floor: floor}
}

func leaves(tick, id int64) impl.Event {
	return impl.Event{Tick: tick, Kind: impl.EventGone, Id: id}
}

func eventWords() []string {
	return []string{"", "call", "board", "there", "out", "gone"}
}

// told are the kinds of events, by letters.
func told(list []impl.Event) string {
	text := ""
	for _, e := range list {
		text += "?cbtog"[e.Kind : e.Kind+1]
	}
	return text
}

func plainEventFault(h impl.House, e impl.Event) int64 {
	b := bookingOf(h)
	isOther := slices.Contains([]int64{2, 3, 4, 5}, e.Kind)
	switch {
	case b.plan.fault != impl.OK:
		return b.plan.fault
	case e.Tick < 0, e.Tick > 1e15, e.Id < 1, e.Id > 1e15:
		return impl.ErrRange
	case e.Kind != 1 && !isOther:
		return impl.ErrText
	case !b.hasFloor(e.Floor):
		return impl.ErrRange
	case e.Kind == 1:
		return b.callFault(e.Floor, e.To)
	case isOther && e.To != 0, e.Kind == 5 && e.Floor != 0:
		return impl.ErrForm
	}
	return impl.OK
}

// plainSteps tells by the letters of two states which events lie between.
func plainSteps(was, is string) (string, bool) {
	ways := map[string]string{
		"wr": "b", "wg": "g", "wt": "bt", "wo": "bo", "rt": "t", "ro": "o",
		"ww": "", "rr": "", "tt": "", "oo": "", "gg": "",
	}
	steps, ok := ways[was+is]
	return steps, ok
}

func plainDiff(h impl.House, tick int64, old, now impl.Ledger) impl.EventsResult {
	b := bookingOf(h)
	if fault := b.ledgerFault(old); fault != impl.OK {
		return impl.EventsResult{Code: fault}
	}
	if fault := b.ledgerFault(now); fault != impl.OK {
		return impl.EventsResult{Code: fault}
	}
	if tick < 0 || tick > 1e15 {
		return impl.EventsResult{Code: impl.ErrRange}
	}
	var list []impl.Event
	for _, p := range now.People {
		was := who(old, func(q impl.Person) bool { return q.Id == p.Id })
		if len(was) == 0 {
			list = append(list, calls(tick, p.Id, p.From, p.To))
			was = []impl.Person{{From: p.From, To: p.To}}
		}
		steps, ok := plainSteps(statesOf(was), statesOf([]impl.Person{p}))
		if !ok || was[0].From != p.From || was[0].To != p.To {
			return impl.EventsResult{Code: impl.ErrForm}
		}
		for _, step := range []byte(steps) {
			list = append(list, map[byte]impl.Event{'b': boards(tick, p.Id, p.From), 't': arrives(tick, p.Id, p.At), 'o': getsOut(tick, p.Id, p.At), 'g': leaves(tick, p.Id)}[step])
		}
	}
	return impl.EventsResult{Events: list}
}

func plainTrace(g impl.Group, ticks int64) impl.TraceResult {
	switch fault := plainGroupFault(g); {
	case fault != impl.OK:
		return impl.TraceResult{Code: fault}
	case ticks < 0, ticks > 2000:
		return impl.TraceResult{Code: impl.ErrRange}
	}
	r := impl.TraceResult{Group: g}
	for range ticks {
		next := plainTicked(r.Group, 0, 0)
		if next.Code != impl.OK {
			return impl.TraceResult{Code: next.Code}
		}
		r.Events = append(r.Events, plainDiff(g.House, next.Group.Tick, r.Group.Ledger, next.Group.Ledger).Events...)
		r.Group = next.Group
	}
	if len(r.Events) > 200 {
		return impl.TraceResult{Code: impl.ErrMany}
	}
	return r
}

func eventsOf(list []impl.Event, id int64) []impl.Event {
	var own []impl.Event
	for _, e := range list {
		if e.Id == id {
			own = append(own, e)
		}
	}
	return own
}

func plainTraceFault(h impl.House, list []impl.Event) int64 {
	if fault := bookingOf(h).plan.fault; fault != impl.OK {
		return fault
	}
	if len(list) > 200 {
		return impl.ErrMany
	}
	for i, e := range list {
		ahead := eventsOf(list[:i], e.Id)
		rows := map[int64][]string{2: {"c"}, 3: {"cb"}, 4: {"cb"}, 5: {"c"}}
		switch fault := plainEventFault(h, e); {
		case fault != impl.OK:
			return fault
		case i > 0 && e.Tick < list[i-1].Tick:
			return impl.ErrForm
		case e.Kind == 1 && len(ahead) > 0:
			return impl.ErrTaken
		case e.Kind == 1:
		case len(ahead) == 0:
			return impl.ErrNone
		case !slices.Contains(rows[e.Kind], told(ahead)), e.Kind == 2 && e.Floor != ahead[0].Floor, e.Kind == 3 && e.Floor != ahead[0].To:
			return impl.ErrForm
		}
	}
	return impl.OK
}

func idsOf(list []impl.Event) []int64 {
	var ids []int64
	for _, e := range list {
		ids = append(ids, e.Id)
	}
	slices.Sort(ids)
	return slices.Compact(ids)
}

func plainStates(h impl.House, list []impl.Event) impl.IntsResult {
	r := impl.IntsResult{Code: plainTraceFault(h, list)}
	for _, id := range idsOf(list) {
		if r.Code == impl.OK {
			r.List = append(r.List, int64(slices.Index([]string{"c", "cb", "cbt", "cbo", "cg"}, told(eventsOf(list, id)))))
		}
	}
	return r
}

func plainWaits(h impl.House, list []impl.Event) impl.IntsResult {
	r := impl.IntsResult{Code: plainTraceFault(h, list)}
	for _, id := range idsOf(list) {
		if own := eventsOf(list, id); r.Code == impl.OK && strings.HasPrefix(told(own), "cb") {
			r.List = append(r.List, own[1].Tick-own[0].Tick)
		}
	}
	return r
}

func plainEventText(h impl.House, list []impl.Event) string {
	text := ""
	for _, e := range list {
		switch word := "call"; e.Kind {
		case 1:
			text += fmt.Sprintf("%d %s %d %d %d\n", e.Tick, word, e.Id, e.Floor, e.To)
		case 5:
			text += fmt.Sprintf("%d gone %d\n", e.Tick, e.Id)
		default:
			word = eventWords()[max(0, min(e.Kind, 5))]
			text += fmt.Sprintf("%d %s %d %d\n", e.Tick, word, e.Id, e.Floor)
		}
	}
	if plainTraceFault(h, list) != impl.OK {
		return ""
	}
	return text
}

var eventForm = regexp.MustCompile(strings.ReplaceAll(`^ *(N) +(?:(call) +(N) +(N) +(N)|(board|there|out) +(N) +(N)|(gone) +(N)) *$`, "N", "[0-9]{1,9}"))

func plainParsed(h impl.House, text string) impl.EventsResult {
	switch fault := bookingOf(h).plan.fault; {
	case fault != impl.OK:
		return impl.EventsResult{Code: fault}
	case len(text) > 3000:
		return impl.EventsResult{Code: impl.ErrMany}
	}
	var list []impl.Event
	for at, line := range plainLines(text) {
		parts := eventForm.FindStringSubmatch(line)
		if parts == nil {
			return impl.EventsResult{Code: impl.ErrText, At: int64(at)}
		}
		kind := int64(slices.Index(eventWords(), parts[2]+parts[6]+parts[9]))
		list = append(list, impl.Event{
			Tick: plainNumber(parts[1]), Kind: kind, Id: plainNumber(parts[3] + parts[7] + parts[10]),
			Floor: plainNumber(parts[4] + parts[8]), To: plainNumber(parts[5]),
		})
	}
	if fault := plainTraceFault(h, list); fault != impl.OK {
		return impl.EventsResult{Code: fault}
	}
	return impl.EventsResult{Events: list}
}

func sameSeen(a, b impl.EventsResult) bool {
	return a.Code == b.Code && a.At == b.At && slices.Equal(a.Events, b.Events)
}

func sameTraced(a, b impl.TraceResult) bool {
	return a.Code == b.Code && slices.Equal(a.Events, b.Events) && sameGroups(a.Group, b.Group)
}

func wantSeen(t *testing.T, name string, got, want impl.EventsResult) {
	t.Helper()
	if !sameSeen(got, want) {
		t.Fatalf("%s is\n%+v, not\n%+v", name, got, want)
	}
}

func wantTraced(t *testing.T, name string, got, want impl.TraceResult) {
	t.Helper()
	if !sameTraced(got, want) {
		t.Fatalf("%s is\n%+v, not\n%+v", name, got, want)
	}
}

func wantInts(t *testing.T, name string, got impl.IntsResult, code int64, list ...int64) {
	t.Helper()
	if !sameInts(got, impl.IntsResult{Code: code, List: list}) {
		t.Fatalf("%s is %+v, not %d %v", name, got, code, list)
	}
}

// holdsEvents asks of one list all functions.
func holdsEvents(t *testing.T, h impl.House, list []impl.Event) {
	t.Helper()
	before := slices.Clone(list)
	for _, e := range list {
		if got, want := impl.EventFault(h, e), plainEventFault(h, e); got != want {
			t.Fatalf("EventFault(%+v, %+v) is %d, not %d", h, e, got, want)
		}
	}
	if got, want := impl.TraceFault(h, list), plainTraceFault(h, list); got != want {
		t.Fatalf("TraceFault(%+v, %+v) is %d, not %d", h, list, got, want)
	}
	states, waits := plainStates(h, list), plainWaits(h, list)
	wantInts(t, fmt.Sprintf("StatesOf(%+v, %+v)", h, list), impl.StatesOf(h, list), states.Code, states.List...)
	wantInts(t, fmt.Sprintf("WaitsOf(%+v, %+v)", h, list), impl.WaitsOf(h, list), waits.Code, waits.List...)
	if got, want := impl.FormatEvents(h, list), plainEventText(h, list); got != want {
		t.Fatalf("FormatEvents(%+v, %+v) is %q, not %q", h, list, got, want)
	}
	if !slices.Equal(list, before) {
		t.Fatalf("%+v was changed to %+v", before, list)
	}
}

// wantTraceFault holds a code by hand, and all else zero with it.
func wantTraceFault(t *testing.T, name string, h impl.House, list []impl.Event, code int64) {
	t.Helper()
	if got := impl.TraceFault(h, list); got != code {
		t.Errorf("%s: TraceFault of %+v is %d, not %d", name, list, got, code)
	}
	holdsEvents(t, h, list)
	if code == impl.OK {
		return
	}
	wantInts(t, name+": StatesOf", impl.StatesOf(h, list), code)
	wantInts(t, name+": WaitsOf", impl.WaitsOf(h, list), code)
	if got := impl.FormatEvents(h, list); got != "" {
		t.Errorf("%s: FormatEvents is %q", name, got)
	}
}

func TestEventConstants(t *testing.T) {
	kinds := []int64{impl.EventCall, impl.EventBoard, impl.EventThere, impl.EventOut, impl.EventGone}
	if impl.MaxEvents != 200 || !slices.Equal(kinds, []int64{1, 2, 3, 4, 5}) {
		t.Error(impl.MaxEvents, kinds)
	}
}

func TestEventFaultByHand(t *testing.T) {
	h := exampleHouse()
	rows := []struct {
		name string
		e    impl.Event
		want int64
	}{
		{"a call", calls(0, 1, 0, 2), impl.OK},
		{"a call downwards", calls(9, 7, 2, 0), impl.OK},
		{"a boarding", boards(3, 1, 1), impl.OK},
		{"a boarding at the lowest floor", boards(3, 1, 0), impl.OK},
		{"a boarding at the highest floor", boards(3, 1, 2), impl.OK},
		{"one who is there", arrives(3, 1, 2), impl.OK},
		{"one who was let out", getsOut(3, 1, 1), impl.OK},
		{"one who is gone", leaves(3, 1), impl.OK},
		{"the last tick and the last Id", calls(big1, big1, 1, 0), impl.OK},
		{"the tick -1", boards(-1, 1, 0), impl.ErrRange},
		{"a tick above MaxBig", boards(big1+1, 1, 0), impl.ErrRange},
		{"the Id 0", boards(0, 0, 0), impl.ErrRange},
		{"the Id -1", boards(0, -1, 0), impl.ErrRange},
		{"an Id above MaxBig", boards(0, big1+1, 0), impl.ErrRange},
		{"the kind 0", impl.Event{Id: 1}, impl.ErrText},
		{"the kind 6", impl.Event{Id: 1, Kind: 6}, impl.ErrText},
		{"the kind -1", impl.Event{Id: 1, Kind: -1}, impl.ErrText},
		{"nothing", impl.Event{}, impl.ErrRange},
		{"a call at the refuge below", calls(0, 1, -1, 0), impl.ErrRange},
		{"a call at the refuge above", calls(0, 1, 3, 0), impl.ErrRange},
		{"a call to the refuge below", calls(0, 1, 0, -1), impl.ErrRange},
		{"a call to the refuge above", calls(0, 1, 0, 3), impl.ErrRange},
		{"a call from a floor to itself", calls(0, 1, 1, 1), impl.ErrForm},
		{"a call from the floor 0 to itself", calls(0, 1, 0, 0), impl.ErrForm},
		{"a boarding at the refuge below", boards(0, 1, -1), impl.ErrRange},
		{"a boarding at the refuge above", boards(0, 1, 3), impl.ErrRange},
		{"there at the refuge above", arrives(0, 1, 3), impl.ErrRange},
		{"let out at the refuge below", getsOut(0, 1, -1), impl.ErrRange},
		{"gone at the refuge above", impl.Event{Kind: 5, Id: 1, Floor: 3}, impl.ErrRange},
		{"gone at a floor", impl.Event{Kind: 5, Id: 1, Floor: 1}, impl.ErrForm},
		{"gone to a floor", impl.Event{Kind: 5, Id: 1, To: 1}, impl.ErrForm},
		{"a boarding to a floor", impl.Event{Kind: 2, Id: 1, To: 2}, impl.ErrForm},
		{"a boarding to no floor", impl.Event{Kind: 2, Id: 1, To: -1}, impl.ErrForm},
		{"there to a floor", impl.Event{Kind: 3, Id: 1, Floor: 1, To: 1}, impl.ErrForm},
		{"let out to a floor", impl.Event{Kind: 4, Id: 1, To: 99}, impl.ErrForm},
	}
	for _, r := range rows {
		if got := impl.EventFault(h, r.e); got != r.want {
			t.Errorf("%s: EventFault is %d, not %d", r.name, got, r.want)
		}
		if got := impl.EventFault(nearHouse(), r.e); got != impl.ErrForm {
			t.Errorf("%s, in a house too near: EventFault is %d", r.name, got)
		}
		if got := impl.EventFault(outHouse(), r.e); got != impl.ErrRange {
			t.Errorf("%s, in a house out of its bounds: EventFault is %d", r.name, got)
		}
	}
}

// Where two codes hold, the one that is named first is told.
func TestOrderOfEventFaults(t *testing.T) {
	h := exampleHouse()
	rows := []struct {
		name string
		e    impl.Event
		want int64
	}{
		{"a tick ahead of a kind", impl.Event{Tick: -1, Kind: 6, Id: 1}, impl.ErrRange},
		{"an Id ahead of a kind", impl.Event{Kind: 0, Id: 0}, impl.ErrRange},
		{"a kind ahead of a floor", impl.Event{Kind: 6, Id: 1, Floor: 3}, impl.ErrText},
		{"a kind ahead of a To", impl.Event{Kind: 0, Id: 1, To: 1}, impl.ErrText},
		{"a floor ahead of a To", impl.Event{Kind: 2, Id: 1, Floor: 3, To: 1}, impl.ErrRange},
		{"a floor of a call from it to itself", calls(0, 1, 3, 3), impl.ErrRange},
		{"a tick ahead of a call to itself", calls(-1, 1, 1, 1), impl.ErrRange},
		{"an Id ahead of gone at a floor", impl.Event{Kind: 5, Floor: 1}, impl.ErrRange},
		{"a floor ahead of gone to a floor", impl.Event{Kind: 5, Id: 1, Floor: -1, To: 2}, impl.ErrRange},
	}
	for _, r := range rows {
		if got := impl.EventFault(h, r.e); got != r.want {
			t.Errorf("%s: EventFault is %d, not %d", r.name, got, r.want)
		}
	}
}

// All edges against each other, in houses of all kinds.
func TestEventsAtEveryEdge(t *testing.T) {
	for _, h := range housesOfAllKinds() {
		floors := []int64{least, -1, 0, 1, h.Floors - 1, h.Floors, greatest}
		for _, tick := range []int64{least, -1, 0, 1, big1, big1 + 1, greatest} {
			for _, id := range []int64{least, -1, 0, 1, 2, big1, big1 + 1, greatest} {
				for _, kind := range []int64{least, -1, 0, 1, 2, 3, 4, 5, 6, greatest} {
					for _, floor := range floors {
						for _, to := range floors {
							e := impl.Event{Tick: tick, Kind: kind, Id: id, Floor: floor, To: to}
							if got, want := impl.EventFault(h, e), plainEventFault(h, e); got != want {
								t.Fatalf("EventFault(%+v, %+v) is %d, not %d", h, e, got, want)
							}
						}
					}
				}
			}
		}
	}
}

// Each state to each other one, and from nobody to each.
func TestEveryChangeOfAState(t *testing.T) {
	h := exampleHouse()
	one := func(kind byte) impl.Person {
		p := person(5, kind, 1, 2, 1, 0)
		if kind == 'o' {
			p.At = 2
		}
		return p
	}
	call, board, there, out, gone := calls(8, 5, 1, 2), boards(8, 5, 1), arrives(8, 5, 2), getsOut(8, 5, 2), leaves(8, 5)
	rows := map[string][]impl.Event{
		"wr": {board}, "wg": {gone}, "wt": {board, there}, "wo": {board, out}, "rt": {there}, "ro": {out},
		"ww": {}, "rr": {}, "tt": {}, "oo": {}, "gg": {},
		"-w": {call}, "-r": {call, board}, "-t": {call, board, there}, "-o": {call, board, out}, "-g": {call, gone},
	}
	for _, was := range []byte("-wrtog") {
		for _, is := range []byte("wrtog") {
			old, now := impl.Ledger{Next: 9}, impl.Ledger{Next: 9, People: []impl.Person{one(is)}}
			if was != '-' {
				old.People = []impl.Person{one(was)}
			}
			name := string([]byte{was, is})
			want := impl.EventsResult{Code: impl.ErrForm}
			if list, ok := rows[name]; ok {
				want = impl.EventsResult{Events: list}
			}
			wantSeen(t, "DiffLedgers of "+name, impl.DiffLedgers(h, 8, old, now), want)
			wantSeen(t, "plain DiffLedgers of "+name, plainDiff(h, 8, old, now), want)
			for _, turn := range []func(*impl.Person){func(p *impl.Person) { p.From = 0 }, func(p *impl.Person) { p.To = 0 }, func(p *impl.Person) { p.From, p.To = p.To, p.From }} {
				p := one(is)
				turn(&p)
				if p.State == impl.StateThere {
					p.At = p.To
				}
				now.People = []impl.Person{p}
				if got := impl.DiffLedgers(h, 8, old, now); (got.Code == impl.ErrForm) != (was != '-') || got.Code != impl.OK && len(got.Events) != 0 {
					t.Errorf("%s by another way %+v: %+v", name, p, got)
				}
			}
		}
	}
}

// Only the state, and the way, are looked at: nothing is told of whom the state
// is the same, wherever else they are.
func TestNothingIsSeenOfTheSameState(t *testing.T) {
	h := exampleHouse()
	for _, kind := range []byte("wrtog") {
		old, other := person(5, kind, 1, 2, 1, 0), person(5, kind, 1, 2, 0, 1)
		if kind == 'o' {
			other.At = 1
		}
		wantSeen(t, string(kind), impl.DiffLedgers(h, 3, people(old), people(other)), impl.EventsResult{})
		wantSeen(t, string(kind), impl.DiffLedgers(h, 3, people(old), people(old)), impl.EventsResult{})
	}
}

func TestFloorsOfEvents(t *testing.T) {
	h := wideHouse()
	for from := range h.Floors {
		for to := range h.Floors {
			if from == to {
				continue
			}
			there, out, rides := person(3, 't', from, to, 0, 0), person(4, 'o', from, to, 0, 0), person(5, 'r', from, to, 0, 0)
			for at := range h.Floors {
				out.At = at
				now := people(there, out, rides, person(6, 'w', from, to, 0, 0), person(7, 'g', from, to, 0, 0))
				want := []impl.Event{
					calls(2, 3, from, to), boards(2, 3, from), arrives(2, 3, to), calls(2, 4, from, to), boards(2, 4, from), getsOut(2, 4, at),
					calls(2, 5, from, to), boards(2, 5, from), calls(2, 6, from, to), calls(2, 7, from, to), leaves(2, 7),
				}
				wantSeen(t, "DiffLedgers", impl.DiffLedgers(h, 2, impl.Ledger{Next: 1}, now), impl.EventsResult{Events: want})
			}
		}
	}
}

// Several people at once, in the order of now; who is in old alone is nothing.
func TestDiffOfSeveralPeople(t *testing.T) {
	h := exampleHouse()
	h.Queue = 9
	old := people(person(1, 'w', 0, 1, 0, 0), person(2, 'r', 0, 2, 0, 0), person(4, 'r', 1, 2, 0, 1), person(6, 't', 0, 1, 1, 0), person(7, 'w', 2, 0, 1, 1), person(9, 'w', 1, 0, 2, 0), person(10, 'g', 1, 0, 2, 0))
	now := people(person(1, 't', 0, 1, 0, 0), person(3, 'w', 2, 1, 0, 0), person(4, 'o', 1, 2, 0, 1), person(7, 'r', 2, 0, 1, 1), person(8, 'g', 0, 2, 0, 0), person(9, 'g', 1, 0, 2, 0), person(10, 'g', 1, 0, 2, 0), person(11, 'r', 0, 1, 2, 0))
	now.People[2].At = 1
	want := []impl.Event{
		boards(7, 1, 0), arrives(7, 1, 1), calls(7, 3, 2, 1), getsOut(7, 4, 1), boards(7, 7, 2),
		calls(7, 8, 0, 2), leaves(7, 8), leaves(7, 9), calls(7, 11, 0, 1), boards(7, 11, 0),
	}
	wantSeen(t, "DiffLedgers", impl.DiffLedgers(h, 7, old, now), impl.EventsResult{Events: want})
	wantSeen(t, "of the same", impl.DiffLedgers(h, 7, old, old), impl.EventsResult{})
	wantSeen(t, "of nobody then", impl.DiffLedgers(h, 7, old, impl.Ledger{Next: 1}), impl.EventsResult{})
	wantSeen(t, "of nobody at all", impl.DiffLedgers(h, 7, impl.Ledger{Next: 4}, impl.Ledger{Next: 1}), impl.EventsResult{})
	wantSeen(t, "of nobody ahead", impl.DiffLedgers(h, 7, impl.Ledger{Next: 1}, people(old.People[1:3]...)),
		impl.EventsResult{Events: []impl.Event{calls(7, 2, 0, 2), boards(7, 2, 0), calls(7, 4, 1, 2), boards(7, 4, 1)}})
	for i := range old.People {
		wrong := ownGroup(impl.Group{Ledger: now}).Ledger
		wrong.People = slices.Insert(wrong.People, 0, person(1, 'w', 1, 0, 0, 0))[:1]
		wrong.People = append(wrong.People, old.People[1:i+1]...)
		wantSeen(t, fmt.Sprint("of a wrong one ahead of ", i), impl.DiffLedgers(h, 7, old, impl.Ledger{Next: 20, People: wrong.People}), impl.EventsResult{Code: impl.ErrForm})
	}
	last := impl.Ledger{Next: 20, People: append(slices.Clone(now.People[:6]), person(10, 'w', 1, 0, 2, 0))}
	wantSeen(t, "of a wrong one at the end", impl.DiffLedgers(h, 7, old, last), impl.EventsResult{Code: impl.ErrForm})
	full := people(crowd(60, 1, person(0, 't', 0, 1, 0, 0))...)
	if got := impl.DiffLedgers(h, 7, impl.Ledger{Next: 1}, full); got.Code != impl.OK || told(got.Events) != strings.Repeat("cbt", 60) {
		t.Errorf("60 who are there at once: %+v", got)
	}
}

func TestTicksOfADiff(t *testing.T) {
	h := exampleHouse()
	old, now := people(person(1, 'w', 0, 1, 0, 0)), people(person(1, 'r', 0, 1, 0, 0))
	for _, tick := range []int64{0, 1, 77, big1 - 1, big1} {
		wantSeen(t, fmt.Sprint("tick ", tick), impl.DiffLedgers(h, tick, old, now), impl.EventsResult{Events: []impl.Event{boards(tick, 1, 0)}})
	}
	for _, tick := range outside(0, big1) {
		wantSeen(t, fmt.Sprint("tick ", tick), impl.DiffLedgers(h, tick, old, now), impl.EventsResult{Code: impl.ErrRange})
		wantSeen(t, fmt.Sprint("tick ", tick, " ahead of a change"), impl.DiffLedgers(h, tick, now, old), impl.EventsResult{Code: impl.ErrRange})
		wantSeen(t, fmt.Sprint("tick ", tick, " of nobody"), impl.DiffLedgers(h, tick, impl.Ledger{Next: 1}, impl.Ledger{Next: 1}), impl.EventsResult{Code: impl.ErrRange})
	}
}

// The faults of old come ahead of those of now, and both ahead of the tick.
func TestFaultsOfADiff(t *testing.T) {
	h := exampleHouse()
	right := people(person(1, 'w', 0, 1, 0, 0))
	faults := []struct {
		name string
		l    impl.Ledger
		code int64
	}{
		{"Next 0", impl.Ledger{}, impl.ErrRange},
		{"61 people", people(crowd(61, 1, someone(0))...), impl.ErrMany},
		{"Ids that do not rise", impl.Ledger{Next: 9, People: []impl.Person{someone(2), someone(2)}}, impl.ErrForm},
		{"no floor", people(person(1, 'w', 0, 3, 0, 0)), impl.ErrRange},
		{"no way", people(person(1, 'w', 1, 1, 0, 0)), impl.ErrForm},
		{"no state", people(impl.Person{Id: 1, From: 1, State: 5}), impl.ErrRange},
		{"there elsewhere", people(impl.Person{Id: 1, From: 1, State: 2, At: 2}), impl.ErrForm},
		{"too many wait", people(crowd(5, 1, person(0, 'w', 0, 1, 0, 0))...), impl.ErrMany},
	}
	for _, f := range faults {
		for _, tick := range []int64{-1, 0, 5, big1 + 1} {
			want := impl.EventsResult{Code: f.code}
			wantSeen(t, f.name+" of old", impl.DiffLedgers(h, tick, f.l, right), want)
			wantSeen(t, f.name+" of now", impl.DiffLedgers(h, tick, right, f.l), want)
			for _, g := range faults {
				wantSeen(t, f.name+" of old ahead of "+g.name, impl.DiffLedgers(h, tick, f.l, g.l), want)
			}
			wantSeen(t, f.name+" in a house too near", impl.DiffLedgers(nearHouse(), tick, f.l, right), impl.EventsResult{Code: impl.ErrForm})
			wantSeen(t, f.name+" in a house out of its bounds", impl.DiffLedgers(outHouse(), tick, right, f.l), impl.EventsResult{Code: impl.ErrRange})
		}
	}
}

// moved is a ledger some time later: some people went on, mostly as they may,
// some are forgotten, some are new.
func (d *dice) moved(h impl.House, l impl.Ledger) impl.Ledger {
	now := impl.Ledger{Next: l.Next + d.upTo(0, 6)}
	for _, p := range l.People {
		next := [][]int64{{0, 1, 2, 3, 4}, {1, 1, 2, 3, 3}, {2}, {3}, {4}}[p.State]
		p.State = next[d.upTo(0, int64(len(next))-1)]
		if d.upTo(0, 60) == 0 {
			p.State = d.upTo(0, 4)
		}
		if d.upTo(0, 80) == 0 {
			p.From, p.To = p.To, p.From
		}
		p.At = 0
		if p.State == impl.StateOut {
			p.At = d.upTo(0, h.Floors-1)
		} else if p.State == impl.StateThere {
			p.At = p.To
		}
		if d.upTo(0, 12) != 0 {
			now.People = append(now.People, p)
		}
	}
	for id := l.Next; id < now.Next && len(now.People) < 60; id++ {
		if p := d.ledger(h, 1).People; len(p) > 0 {
			p[0].Id = id
			now.People = append(now.People, p[0])
		}
	}
	return now
}

// Ledgers of all kinds, without and with faults, in all orders.
func TestDiffsOfAllKinds(t *testing.T) {
	d := &dice{state: 10}
	right, wrong := 0, 0
	for _, h := range groupHouses() {
		for _, most := range []int64{0, 1, 3, 9, 30, 60} {
			for range 60 {
				old := d.ledger(h, most)
				now := d.moved(h, old)
				other := d.spoiled(h, now)
				for _, pair := range [][2]impl.Ledger{{old, now}, {now, old}, {old, other}, {other, now}, {old, old}, {now, other}} {
					for _, house := range []impl.House{h, nearHouse(), outHouse()} {
						tick := []int64{-1, 0, 7, 7, 7, big1, big1 + 1}[d.upTo(0, 6)]
						want := plainDiff(house, tick, pair[0], pair[1])
						wantSeen(t, fmt.Sprintf("DiffLedgers(%+v, %d, %+v, %+v)", house, tick, pair[0], pair[1]), impl.DiffLedgers(house, tick, pair[0], pair[1]), want)
						if want.Code == impl.ErrForm {
							wrong++
						} else if len(want.Events) > 0 {
							right++
						}
					}
				}
			}
		}
	}
	if right < 500 || wrong < 500 {
		t.Errorf("%d with events, %d with other changes", right, wrong)
	}
}

// seenGroup has three who called at once, in one shaft of the example.
func seenGroup() impl.Group {
	return freshGroup(exampleHouse(), 1, person(1, 'w', 0, 2, 0, 0), person(2, 'w', 2, 1, 0, 1), person(3, 'w', 1, 0, 0, 0))
}

func TestTraceByHand(t *testing.T) {
	g := seenGroup()
	r := impl.TraceGroup(g, 400)
	want := []impl.Event{boards(2, 1, 0), boards(2, 2, 2), arrives(28, 1, 2), arrives(65, 2, 1), boards(94, 3, 1), arrives(111, 3, 0)}
	wantTraced(t, "TraceGroup", r, impl.TraceResult{Events: want, Group: after(t, g, 400, 0, 0)})
	for _, tick := range []int64{0, 1, 27, 28, 64, 65, 93, 94, 110, 111} {
		seen := slices.IndexFunc(want, func(e impl.Event) bool { return e.Tick > tick })
		if seen < 0 {
			seen = len(want)
		}
		wantTraced(t, fmt.Sprint("TraceGroup for ", tick), impl.TraceGroup(g, tick), impl.TraceResult{Events: want[:seen], Group: after(t, g, tick, 0, 0)})
	}
	later := impl.TraceGroup(withTick(g, 1000), 70)
	wantTraced(t, "TraceGroup from 1000 on", later, impl.TraceResult{
		Events: []impl.Event{boards(1002, 1, 0), boards(1002, 2, 2), arrives(1028, 1, 2), arrives(1065, 2, 1)},
		Group:  after(t, withTick(g, 1000), 70, 0, 0),
	})
}

// A group that was traced for a while is recalled, or restarted.
func TestTraceBehindARecallAndARestart(t *testing.T) {
	g := impl.TraceGroup(seenGroup(), 20).Group
	rows := []struct {
		name string
		g    impl.Group
		want []impl.Event
	}{
		{"a recall", impl.RecallGroup(g, true).Group, []impl.Event{getsOut(28, 1, 2), getsOut(55, 2, 2)}},
		{"a recall that ended", impl.RecallGroup(impl.RecallGroup(g, true).Group, false).Group, []impl.Event{arrives(28, 1, 2), arrives(65, 2, 1)}},
		{"a restart that keeps", impl.RestartGroup(g, true).Group, []impl.Event{arrives(31, 1, 2), arrives(68, 2, 1), boards(97, 3, 1), arrives(114, 3, 0)}},
		{"a restart that does not", impl.RestartGroup(g, false).Group, []impl.Event{arrives(31, 1, 2), arrives(68, 2, 1)}},
	}
	for _, r := range rows {
		wantTraced(t, "behind "+r.name, impl.TraceGroup(r.g, 200), impl.TraceResult{Events: r.want, Group: after(t, r.g, 200, 0, 0)})
	}
}

// Drift of the house is none of a trace.
func TestTraceDoesNotDrift(t *testing.T) {
	g := impl.CallLift(impl.NewGroup(driftHouse(), 2).Group, 0, 1).Group
	for _, ticks := range []int64{0, 1, 50, 300} {
		if got, want := impl.TraceGroup(g, ticks).Group, after(t, g, ticks, 0, 0); !sameGroups(got, want) {
			t.Errorf("for %d: %+v, not %+v", ticks, got, want)
		}
	}
}

func TestTicksOfATrace(t *testing.T) {
	for _, g := range []impl.Group{seenGroup(), recalled(seenGroup()), storyGroup(), freshGroup(greatestHouse(), 3), freshGroup(leastHouse(), 1)} {
		wantTraced(t, "for no tick", impl.TraceGroup(g, 0), impl.TraceResult{Group: g})
		for _, ticks := range []int64{1, 1999, 2000} {
			wantTraced(t, fmt.Sprint("for ", ticks), impl.TraceGroup(g, ticks), plainTrace(g, ticks))
			if got := impl.TraceGroup(g, ticks); got.Code != impl.OK || got.Group.Tick != g.Tick+ticks {
				t.Errorf("for %d: %+v", ticks, got)
			}
		}
		for _, ticks := range append(outside(0, 2000), 3000, 1<<32) {
			wantTraced(t, fmt.Sprint("for ", ticks), impl.TraceGroup(g, ticks), impl.TraceResult{Code: impl.ErrRange})
			wantTraced(t, fmt.Sprint("at the end, for ", ticks), impl.TraceGroup(withTick(g, big1), ticks), impl.TraceResult{Code: impl.ErrRange})
		}
	}
}

func TestTraceAtTheLastTick(t *testing.T) {
	for _, ahead := range []int64{0, 1, 2, 5, 30, 111, 1999, 2000} {
		g := withTick(seenGroup(), big1-ahead)
		r := impl.TraceGroup(g, ahead)
		wantTraced(t, fmt.Sprint("up to the end from ", ahead), r, plainTrace(g, ahead))
		if r.Code != impl.OK || r.Group.Tick != big1 {
			t.Errorf("up to the end from %d: %+v", ahead, r)
		}
		for _, ticks := range []int64{ahead + 1, ahead + 7, 2000} {
			want := impl.TraceResult{Code: impl.ErrMany}
			if ticks > 2000 {
				want.Code = impl.ErrRange
			}
			if ticks != ahead {
				wantTraced(t, fmt.Sprint("beyond the end from ", ahead), impl.TraceGroup(g, ticks), want)
			}
		}
	}
}

func TestTraceOfNobody(t *testing.T) {
	for _, h := range groupHouses() {
		for shafts := range 3 {
			g := freshGroup(h, shafts+1, person(2, 't', 0, 1, 0, 0), person(3, 'o', 0, 1, 0, 0), person(4, 'g', 0, 1, 0, 0))
			for _, g := range []impl.Group{g, freshGroup(h, shafts+1), recalled(g)} {
				wantTraced(t, "TraceGroup", impl.TraceGroup(g, 60), impl.TraceResult{Group: after(t, g, 60, 0, 0)})
			}
		}
	}
}

// No trace has more events than these: who waits boards and arrives, at most 40
// do, and the others, up to 60 in all, only arrive.
func TestTraceOfAsManyAsCan(t *testing.T) {
	h := exampleHouse()
	h.Queue, h.Load = 40, 20
	g := freshGroup(h, 3)
	for i := range int64(60) {
		kind := byte('w')
		if i >= 40 {
			kind = 'r'
		}
		g.Ledger.People = append(g.Ledger.People, person(i+1, kind, i%3, (i+1)%3, i%3, i/3%2))
	}
	g.Ledger.Next = 61
	r := impl.TraceGroup(g, 2000)
	if r.Code != impl.OK || len(r.Events) != 100 || statesOf(r.Group.Ledger.People) != strings.Repeat("t", 60) {
		t.Errorf("%d events: %+v", len(r.Events), r)
	}
	wantTraced(t, "TraceGroup", r, plainTrace(g, 2000))
	out := impl.TraceGroup(impl.RecallGroup(g, true).Group, 2000)
	if out.Code != impl.OK || told(out.Events) != strings.Repeat("o", 20) {
		t.Errorf("recalled: %+v", out)
	}
}

func refusesTrace(t *testing.T, name string, g impl.Group, code int64) {
	t.Helper()
	wantGroupFault(t, name, g, code)
	for _, ticks := range []int64{least, -1, 0, 1, 2000, 2001, greatest} {
		wantTraced(t, name, impl.TraceGroup(g, ticks), impl.TraceResult{Code: code})
	}
}

func TestTracesOfGroupsWithFaults(t *testing.T) {
	h := exampleHouse()
	refusesTrace(t, "a house too near", freshGroup(nearHouse(), 1), impl.ErrForm)
	refusesTrace(t, "a house out of its bounds", freshGroup(outHouse(), 1), impl.ErrRange)
	refusesTrace(t, "nothing", impl.Group{}, impl.ErrRange)
	refusesTrace(t, "no decks", freshGroup(h, 0), impl.ErrMany)
	refusesTrace(t, "four decks", freshGroup(h, 4), impl.ErrMany)
	refusesTrace(t, "no ledger", impl.Group{House: h, Decks: []impl.Deck{freshDeck(h)}}, impl.ErrRange)
	refusesTrace(t, "too many wait", freshGroup(h, 1, crowd(5, 1, person(0, 'w', 1, 2, 0, 0))...), impl.ErrMany)
	refusesTrace(t, "a person of no deck", freshGroup(h, 2, person(1, 'w', 1, 2, 2, 0)), impl.ErrForm)
	refusesTrace(t, "Tick -1", withTick(freshGroup(h, 1), -1), impl.ErrRange)
	refusesTrace(t, "Tick above MaxBig", withTick(freshGroup(h, 1), big1+1), impl.ErrRange)
	for _, f := range deckFaults() {
		refusesTrace(t, f.name, withDecks(freshGroup(h, 1, person(1, 'w', 1, 2, 0, 0)), freshDeck(h), turnedDeck(f.turn)), f.code)
	}
}

// Groups of all kinds, also those that no new one comes to.
func TestTracesOfAllKinds(t *testing.T) {
	d := &dice{state: 101}
	for _, h := range groupHouses() {
		for _, most := range []int64{0, 2, 9, 60} {
			for range 8 {
				g := d.group(h, most)
				for range 3 {
					before := ownGroup(g)
					for _, ticks := range []int64{0, 1, 2, d.upTo(3, 60)} {
						wantTraced(t, fmt.Sprintf("TraceGroup of %+v for %d", g, ticks), impl.TraceGroup(g, ticks), plainTrace(g, ticks))
					}
					if !sameGroups(g, before) {
						t.Fatalf("%+v was changed to %+v", before, g)
					}
					g = d.spoiledGroup(g)
				}
			}
		}
	}
}

// Nobody who hands events over is left behind when a trace is told.
func TestTracesLeaveNobodyBehind(t *testing.T) {
	before := runtime.NumGoroutine()
	for range 200 {
		impl.TraceGroup(seenGroup(), 120)
		impl.TraceGroup(seenGroup(), 0)
		impl.TraceGroup(withTick(seenGroup(), big1-5), 9)
		impl.TraceGroup(impl.Group{}, 9)
	}
	for range 1000 {
		if runtime.NumGoroutine() <= before {
			return
		}
		time.Sleep(time.Millisecond)
	}
	t.Errorf("%d are left, of %d", runtime.NumGoroutine(), before)
}

// Who traces at the same time is not in anybody's way.
func TestTracesAtTheSameTime(t *testing.T) {
	g := seenGroup()
	want := impl.TraceGroup(g, 200)
	answers := make(chan impl.TraceResult)
	for range 16 {
		go func() { answers <- impl.TraceGroup(g, 200) }()
	}
	for range 16 {
		if got := <-answers; !sameTraced(got, want) {
			t.Errorf("%+v, not %+v", got, want)
		}
	}
}

// wholeList has somebody in each state, whose Ids do not rise, and who are
// looked at one among the others.
func wholeList() []impl.Event {
	return []impl.Event{
		calls(0, 5, 0, 2), calls(0, 9, 1, 0), boards(2, 5, 0), calls(3, 2, 2, 1), calls(3, 7, 0, 1), boards(3, 7, 0), calls(5, 3, 2, 0),
		arrives(9, 5, 2), boards(9, 3, 2), getsOut(12, 7, 2), leaves(12, 9),
	}
}

func TestTraceFaultByHand(t *testing.T) {
	h := exampleHouse()
	call, board := calls(1, 4, 0, 2), boards(2, 4, 0)
	there, out, gone := arrives(3, 4, 2), getsOut(3, 4, 1), leaves(3, 4)
	waits, rides := []impl.Event{call}, []impl.Event{call, board}
	isThere, isOut, isGone := []impl.Event{call, board, there}, []impl.Event{call, board, out}, []impl.Event{call, gone}
	again := boards(3, 4, 0)
	rows := []struct {
		name  string
		ahead []impl.Event
		e     impl.Event
		want  int64
	}{
		{"a first call", nil, call, impl.OK},
		{"a call of another one", waits, calls(1, 5, 0, 2), impl.OK},
		{"a call of who waits", waits, calls(3, 4, 0, 2), impl.ErrTaken},
		{"a call of who waits, another way", waits, calls(3, 4, 1, 0), impl.ErrTaken},
		{"a call of who rides", rides, calls(3, 4, 0, 2), impl.ErrTaken},
		{"a call of who is there", isThere, calls(3, 4, 0, 2), impl.ErrTaken},
		{"a call of who is out", isOut, calls(3, 4, 0, 2), impl.ErrTaken},
		{"a call of who is gone", isGone, calls(3, 4, 0, 2), impl.ErrTaken},
		{"a boarding of nobody", nil, again, impl.ErrNone},
		{"there, of nobody", nil, there, impl.ErrNone},
		{"out, of nobody", nil, out, impl.ErrNone},
		{"gone, of nobody", nil, gone, impl.ErrNone},
		{"a boarding of another one", waits, boards(3, 5, 0), impl.ErrNone},
		{"there, of another one", rides, arrives(3, 5, 2), impl.ErrNone},
		{"out, of another one", rides, getsOut(3, 5, 2), impl.ErrNone},
		{"gone, of another one", waits, leaves(3, 5), impl.ErrNone},
		{"a boarding of who waits", waits, again, impl.OK},
		{"a boarding of who rides", rides, again, impl.ErrForm},
		{"a boarding of who is there", isThere, again, impl.ErrForm},
		{"a boarding of who is out", isOut, again, impl.ErrForm},
		{"a boarding of who is gone", isGone, again, impl.ErrForm},
		{"gone, of who waits", waits, gone, impl.OK},
		{"gone, of who rides", rides, gone, impl.ErrForm},
		{"gone, of who is there", isThere, gone, impl.ErrForm},
		{"gone, of who is out", isOut, gone, impl.ErrForm},
		{"gone, of who is gone", isGone, gone, impl.ErrForm},
		{"there, of who waits", waits, there, impl.ErrForm},
		{"there, of who rides", rides, there, impl.OK},
		{"there, of who is there", isThere, there, impl.ErrForm},
		{"there, of who is out", isOut, there, impl.ErrForm},
		{"there, of who is gone", isGone, there, impl.ErrForm},
		{"out, of who waits", waits, out, impl.ErrForm},
		{"out, of who rides", rides, out, impl.OK},
		{"out, of who is there", isThere, out, impl.ErrForm},
		{"out, of who is out", isOut, out, impl.ErrForm},
		{"out, of who is gone", isGone, out, impl.ErrForm},
		{"a boarding elsewhere", waits, boards(3, 4, 1), impl.ErrForm},
		{"a boarding at the goal", waits, boards(3, 4, 2), impl.ErrForm},
		{"there, elsewhere", rides, arrives(3, 4, 1), impl.ErrForm},
		{"there, at the beginning", rides, arrives(3, 4, 0), impl.ErrForm},
		{"out at the beginning", rides, getsOut(3, 4, 0), impl.OK},
		{"out at the goal", rides, getsOut(3, 4, 2), impl.OK},
		{"the same tick", rides, arrives(2, 4, 2), impl.OK},
		{"an earlier tick", rides, arrives(1, 4, 2), impl.ErrForm},
		{"an earlier tick of a call", rides, calls(1, 5, 0, 1), impl.ErrForm},
		{"an earlier tick ahead of a second call", rides, calls(1, 4, 0, 1), impl.ErrForm},
		{"an earlier tick ahead of no call", rides, boards(0, 6, 0), impl.ErrForm},
	}
	for _, r := range rows {
		list := append(slices.Clone(r.ahead), r.e)
		wantTraceFault(t, r.name, h, list, r.want)
		others := []impl.Event{calls(0, 8, 1, 2), boards(0, 8, 1), calls(0, 3, 2, 0), leaves(0, 3)}
		wantTraceFault(t, r.name+", with others ahead", h, append(others, list...), r.want)
		if r.want == impl.OK {
			wantTraceFault(t, r.name+", with another one behind", h, append(list, calls(9, 1, 1, 0)), impl.OK)
		}
	}
	wantTraceFault(t, "nothing at all", h, nil, impl.OK)
	wantTraceFault(t, "an empty list", h, []impl.Event{}, impl.OK)
	wantTraceFault(t, "a whole list", h, wholeList(), impl.OK)
	for _, list := range [][]impl.Event{nil, wholeList(), {{}}, make([]impl.Event, 201)} {
		wantTraceFault(t, "a house too near", nearHouse(), list, impl.ErrForm)
		wantTraceFault(t, "a house out of its bounds", outHouse(), list, impl.ErrRange)
	}
}

// Each fault of an event is told wherever the event stands.
func TestEventFaultsInATrace(t *testing.T) {
	h, list := exampleHouse(), wholeList()
	for at := range list {
		turns := map[string]struct {
			turn func(*impl.Event)
			want int64
		}{
			"Tick -1":            {func(e *impl.Event) { e.Tick = -1 }, impl.ErrRange},
			"Tick above MaxBig":  {func(e *impl.Event) { e.Tick = big1 + 1 }, impl.ErrRange},
			"Id 0":               {func(e *impl.Event) { e.Id = 0 }, impl.ErrRange},
			"Id above MaxBig":    {func(e *impl.Event) { e.Id = big1 + 1 }, impl.ErrRange},
			"Kind 0":             {func(e *impl.Event) { e.Kind = 0 }, impl.ErrText},
			"Kind 6":             {func(e *impl.Event) { e.Kind = 6 }, impl.ErrText},
			"Floor -1":           {func(e *impl.Event) { e.Floor = -1 }, impl.ErrRange},
			"Floor beyond":       {func(e *impl.Event) { e.Floor = 3 }, impl.ErrRange},
			"To as Floor":        {func(e *impl.Event) { e.Floor, e.To = 1, 1 }, impl.ErrForm},
			"a boarding To":      {func(e *impl.Event) { e.Kind, e.To = 2, 1 }, impl.ErrForm},
			"there To":           {func(e *impl.Event) { e.Kind, e.To = 3, 1 }, impl.ErrForm},
			"out To":             {func(e *impl.Event) { e.Kind, e.To = 4, 1 }, impl.ErrForm},
			"gone To":            {func(e *impl.Event) { e.Kind, e.To = 5, 1 }, impl.ErrForm},
			"gone at a Floor":    {func(e *impl.Event) { e.Kind, e.Floor, e.To = 5, 1, 0 }, impl.ErrForm},
			"a call beyond":      {func(e *impl.Event) { e.Kind, e.Floor, e.To = 1, 0, 3 }, impl.ErrRange},
			"Kind ahead of a To": {func(e *impl.Event) { e.Kind, e.To = 7, -1 }, impl.ErrText},
		}
		for name, r := range turns {
			wrong := slices.Clone(list)
			r.turn(&wrong[at])
			wantTraceFault(t, fmt.Sprint(name, " at ", at), h, wrong, r.want)
		}
		if at > 0 && list[at-1].Tick > 0 {
			wrong := slices.Clone(list)
			wrong[at].Tick = list[at-1].Tick - 1
			wantTraceFault(t, fmt.Sprint("an earlier tick at ", at), h, wrong, impl.ErrForm)
		}
	}
}

// Events are asked one by one: the fault of one ahead is told, whatever it is.
func TestWhichTraceFaultComesFirst(t *testing.T) {
	h := exampleHouse()
	call := calls(2, 4, 0, 2)
	wrong := map[int64][]impl.Event{
		impl.ErrRange: {calls(2, 0, 0, 1), boards(2, 4, 3), calls(big1+1, 5, 0, 1)},
		impl.ErrText:  {{Tick: 2, Id: 4}, {Tick: 2, Id: 5, Kind: 6}},
		impl.ErrForm:  {calls(1, 5, 0, 1), calls(2, 5, 1, 1), boards(2, 4, 1), arrives(2, 4, 2), getsOut(2, 4, 0)},
		impl.ErrTaken: {call, calls(3, 4, 1, 0)},
		impl.ErrNone:  {boards(2, 5, 0), leaves(2, 6), arrives(9, 7, 1), getsOut(3, 8, 0)},
	}
	for code, list := range wrong {
		for _, e := range list {
			wantTraceFault(t, fmt.Sprintf("%+v alone", e), h, []impl.Event{call, e}, code)
			for other, behind := range wrong {
				for _, f := range behind {
					wantTraceFault(t, fmt.Sprintf("%+v, with the code %d, ahead of %+v, with %d", e, code, f, other), h, []impl.Event{call, e, f}, code)
				}
			}
		}
	}
	both := []struct {
		name string
		e    impl.Event
		want int64
	}{
		{"a kind ahead of an earlier tick", impl.Event{Tick: 1, Id: 4}, impl.ErrText},
		{"a floor ahead of an earlier tick", boards(1, 4, 3), impl.ErrRange},
		{"a floor ahead of no call", boards(2, 5, 3), impl.ErrRange},
		{"a way ahead of a second call", calls(2, 4, 3, 0), impl.ErrRange},
		{"a To ahead of no call", impl.Event{Tick: 2, Kind: 2, Id: 5, To: 1}, impl.ErrForm},
		{"an earlier tick ahead of a second call", calls(1, 4, 0, 2), impl.ErrForm},
		{"an earlier tick ahead of no call", boards(1, 5, 0), impl.ErrForm},
		{"no call ahead of any floor", arrives(2, 5, 0), impl.ErrNone},
	}
	for _, r := range both {
		wantTraceFault(t, r.name, h, []impl.Event{call, r.e}, r.want)
	}
}

// longList are that many events without a fault.
func longList(count int) []impl.Event {
	var list []impl.Event
	for id := int64(1); len(list) < count; id++ {
		list = append(list, calls(id, id, 0, 1), boards(id, id, 0), arrives(id, id, 1))
	}
	return list[:count]
}

func TestHowManyEventsATraceHas(t *testing.T) {
	h := exampleHouse()
	for _, count := range []int{1, 199, 200} {
		wantTraceFault(t, fmt.Sprint(count, " events"), h, longList(count), impl.OK)
	}
	for _, count := range []int{201, 202, 400, 2000} {
		wantTraceFault(t, fmt.Sprint(count, " events"), h, longList(count), impl.ErrMany)
	}
	wantTraceFault(t, "201 events of which each has a fault", h, make([]impl.Event, 201), impl.ErrMany)
	wantTraceFault(t, "200 events of which each has a fault", h, make([]impl.Event, 200), impl.ErrRange)
	wrong := append(longList(199), calls(0, 900, 0, 1))
	wantTraceFault(t, "200 events of which the last has a fault", h, wrong, impl.ErrForm)
	wantTraceFault(t, "201 events of which one has a fault", h, append(wrong, calls(999, 901, 0, 1)), impl.ErrMany)
}

func TestStatesByHand(t *testing.T) {
	h := exampleHouse()
	wantInts(t, "of a whole list", impl.StatesOf(h, wholeList()), impl.OK,
		impl.StateWaits, impl.StateRides, impl.StateThere, impl.StateOut, impl.StateGone)
	wantInts(t, "of nothing", impl.StatesOf(h, nil), impl.OK)
	wantInts(t, "of an empty list", impl.StatesOf(h, []impl.Event{}), impl.OK)
	list := []impl.Event{calls(0, 30, 0, 2), calls(0, 4, 0, 2), calls(0, big1, 0, 2), calls(0, 17, 0, 2), calls(0, 1, 0, 2)}
	wantInts(t, "of who called alone", impl.StatesOf(h, list), impl.OK, 0, 0, 0, 0, 0)
	list = append(list, boards(1, 17, 0), leaves(1, big1), boards(1, 30, 0), arrives(2, 30, 2))
	wantInts(t, "a little later", impl.StatesOf(h, list), impl.OK, impl.StateWaits, impl.StateWaits, impl.StateRides, impl.StateThere, impl.StateGone)
	list = append(list, getsOut(7, 17, 0))
	wantInts(t, "at the end", impl.StatesOf(h, list), impl.OK, impl.StateWaits, impl.StateWaits, impl.StateOut, impl.StateThere, impl.StateGone)
	for n := range wholeList() {
		states := plainStates(h, wholeList()[:n])
		wantInts(t, fmt.Sprint("of the first ", n), impl.StatesOf(h, wholeList()[:n]), impl.OK, states.List...)
	}
}

func TestWaitsByHand(t *testing.T) {
	h := exampleHouse()
	wantInts(t, "of a whole list", impl.WaitsOf(h, wholeList()), impl.OK, 4, 2, 0)
	wantInts(t, "of nothing", impl.WaitsOf(h, nil), impl.OK)
	wantInts(t, "of an empty list", impl.WaitsOf(h, []impl.Event{}), impl.OK)
	list := []impl.Event{calls(0, 30, 0, 2), calls(0, 4, 0, 2), calls(3, big1, 0, 2), leaves(3, 4), calls(3, 17, 0, 2)}
	wantInts(t, "of nobody who boarded", impl.WaitsOf(h, list), impl.OK)
	list = append(list, boards(3, 17, 0), boards(9, 30, 0), boards(big1-1, big1, 0))
	wantInts(t, "of three who boarded", impl.WaitsOf(h, list), impl.OK, 0, 9, big1-4)
	list = append(list, arrives(big1, 30, 2), getsOut(big1, 17, 1))
	wantInts(t, "of three who boarded, then", impl.WaitsOf(h, list), impl.OK, 0, 9, big1-4)
	wantInts(t, "the longest wait", impl.WaitsOf(h, []impl.Event{calls(0, 1, 0, 1), boards(big1, 1, 0)}), impl.OK, big1)
}

func TestEventTextsByHand(t *testing.T) {
	h := exampleHouse()
	rows := map[string][]impl.Event{
		"":                            nil,
		"7 call 3 0 2\n":              {calls(7, 3, 0, 2)},
		"0 call 12 2 1\n":             {calls(0, 12, 2, 1)},
		"1 call 2 1 0\n1 board 2 1\n": {calls(1, 2, 1, 0), boards(1, 2, 1)},
		"0 call 5 0 2\n0 call 9 1 0\n2 board 5 0\n3 call 2 2 1\n3 call 7 0 1\n3 board 7 0\n5 call 3 2 0\n9 there 5 2\n9 board 3 2\n12 out 7 2\n12 gone 9\n": wholeList(),
		"1000000000000000 call 1000000000000000 0 1\n1000000000000000 gone 1000000000000000\n":                                                              {calls(big1, big1, 0, 1), leaves(big1, big1)},
	}
	for want, list := range rows {
		if got := impl.FormatEvents(h, list); got != want {
			t.Errorf("FormatEvents of %+v is %q, not %q", list, got, want)
		}
	}
	if got := impl.FormatEvents(h, []impl.Event{}); got != "" {
		t.Errorf("of an empty list: %q", got)
	}
	for at := range wholeList() {
		wrong := wholeList()
		wrong[at].Kind = 9
		if got := impl.FormatEvents(h, wrong); got != "" {
			t.Errorf("with a fault at %d: %q", at, got)
		}
	}
}

func wantParsed(t *testing.T, h impl.House, text string, want impl.EventsResult) {
	t.Helper()
	wantSeen(t, fmt.Sprintf("ParseEvents %q", text), impl.ParseEvents(h, text), want)
	wantSeen(t, fmt.Sprintf("plain ParseEvents %q", text), plainParsed(h, text), want)
}

func wantUnread(t *testing.T, h impl.House, text string, at int64) {
	t.Helper()
	wantParsed(t, h, text, impl.EventsResult{Code: impl.ErrText, At: at})
}

func TestTextsThatAreRead(t *testing.T) {
	h := exampleHouse()
	call, board := calls(7, 3, 0, 2), boards(9, 3, 0)
	rows := map[string][]impl.Event{
		"":                                   nil,
		"7 call 3 0 2":                       {call},
		"7 call 3 0 2\n":                     {call},
		" 7 call 3 0 2":                      {call},
		"7 call 3 0 2   \n":                  {call},
		"   7    call  3   0 2  ":            {call},
		"7 call 3 0 2\n9 board 3 0":          {call, board},
		"7 call 3 0 2 \n   9  board 3   0\n": {call, board},
		"007 call 003 00 02\n000000009 board 000000003 000000000\n": {call, board},
		"7 call 3 0 2\n9 board 3 0\n9 there 3 2\n":                  {call, board, arrives(9, 3, 2)},
		"7 call 3 0 2\n9 board 3 0\n9 out 3 1\n":                    {call, board, getsOut(9, 3, 1)},
		"7 call 3 0 2\n8 gone 3":                                    {call, leaves(8, 3)},
		"999999999 call 999999999 2 0":                              {calls(999999999, 999999999, 2, 0)},
		"0 call 1 1 0":                                              {calls(0, 1, 1, 0)},
	}
	for text, want := range rows {
		wantParsed(t, h, text, impl.EventsResult{Events: want})
	}
}

// wrongLines are none of the forms.
func wrongLines() []string {
	lines := []string{
		"", " ", "     ", "\t", "\r", "\x00", "\x80", "\xff", "é", "日本", "call", "7", "7 ", "call 7", "7 7", "7 7 7", "7 call", "7 board", "7 there", "7 out", "7 gone", "call 3 0 2", "board 3 0", "gone 3",
		"7 call 3", "7 call 3 0", "7 call 3 0 2 1", "7 call 3 0 2 call", "7 board 3", "7 board 3 0 2", "7 there 3", "7 there 3 0 2", "7 out 3", "7 out 3 0 2", "7 gone 3 0", "7 gone 3 0 0",
		"7 Call 3 0 2", "7 CALL 3 0 2", "7 calls 3 0 2", "7 cal 3 0 2", "7 boards 3 0", "7 boar 3 0", "7 Board 3 0", "7 their 3 0", "7 waits 3 0", "7 rides 3 0", "7 outs 3 0", "7 ou 3 0", "7 went 3", "7 Gone 3", "7 gon 3",
		"-7 call 3 0 2", "+7 call 3 0 2", "7 call -3 0 2", "7 call +3 0 2", "7 call 3 -0 2", "7 call 3 +0 2", "7 call 3 0 -2", "7 call 3 0 +2", "7 board +3 0", "7 board 3 +0", "-0 gone 3", "7 gone -3", "- 7 gone 3",
		"7 call 0000000003 0 2", "0000000007 call 3 0 2", "7 call 3 0000000000 2", "7 call 3 0 0000000002", "1000000000 call 3 0 2", "7 call 1000000000 0 2", "7 gone 0000000003", "7 board 3 0000000000", "7 out 9223372036854775808 0", "18446744073709551623 gone 3",
		"x call 3 0 2", "7 call x 0 2", "7 call 3 x 2", "7 call 3 0 x", "7x gone 3", "x7 gone 3", "7 gone 3x", "7 gone x3", "7. gone 3", "7 gone 3.0", "7 gone 3e0", "7 gone 0x3", "7 gone 1_3", "7 gone '3'", "7 gone ٣", "7 gone ３", "7gone 3", "7 gone3",
		"7\tgone 3", "7 gone\t3", "7 gone 3\t", "\t7 gone 3", "7 gone 3\r", "7 gone 3\x00", "7 gone 3\x0b", "7 gone\u00a03", "7\u2003gone 3", "7 gone 3\xff", "\xff7 gone 3", "7 go\xffne 3", "7 gone \xff", "7 gone 3;", "7 gone, 3", "7 gone 3 # 1",
		"gone 7 3", "3 7 gone", "7 3 gone", "7 call 3 0 2 9 board 3 0", "7 gone gone", "7 \"\" 3", "! 5", "tick 7", "7 gone " + strings.Repeat("0", 900),
	}
	return lines
}

// A line that is none of the forms is told by its place.
func TestTextsThatCannotBeRead(t *testing.T) {
	h := exampleHouse()
	ahead := "0 call 1 0 2\n 0 call 2 0 2 \n"
	for _, line := range wrongLines() {
		wantUnread(t, h, line+"\n", 0)
		wantUnread(t, h, line+"\n"+line+"\n", 0)
		wantUnread(t, h, line+"\n"+ahead, 0)
		wantUnread(t, h, "0 call 1 0 2\n"+line+"\n0 call 2 0 2", 1)
		wantUnread(t, h, ahead+line+"\n", 2)
		if line != "" {
			wantUnread(t, h, line, 0)
			wantUnread(t, h, ahead+line, 2)
		}
	}
	wantUnread(t, h, "\n", 0)
	wantUnread(t, h, "\n\n\n", 0)
	wantUnread(t, h, ahead+"\n", 2)
	wantUnread(t, h, ahead+"\n"+ahead, 2)
	wantUnread(t, h, strings.Repeat("0 gone 1\n", 300)+"!", 300)
	wantUnread(t, h, strings.Repeat("0 gone 1\n", 332)+"!", 332)
}

// Each byte alone, ahead of, in, between and behind words that can be read.
func TestEveryByteInAnEvent(t *testing.T) {
	h := exampleHouse()
	for b := range 256 {
		char := string([]byte{byte(b)})
		for _, line := range []string{char, char + "7 call 3 0 2", "7 call 3 0 2" + char, "7" + char + "call 3 0 2", "7 ca" + char + "ll 3 0 2", "7 call" + char + "3 0 2", "7 call " + char + " 0 2", "7 call 3 0" + char + "2"} {
			wantSeen(t, fmt.Sprintf("ParseEvents %q", line), impl.ParseEvents(h, line), plainParsed(h, line))
			text := "0 call 1 0 2\n" + line + "\n0 call 2 0 2\n"
			wantSeen(t, fmt.Sprintf("ParseEvents %q", text), impl.ParseEvents(h, text), plainParsed(h, text))
		}
		got := impl.ParseEvents(h, "7 call 3 0 2"+char)
		if isRead := b == ' ' || b == '\n'; (got.Code == impl.OK) != isRead && (b < '0' || b > '9') {
			t.Errorf("the byte %d behind a line: %+v", b, got)
		}
		if got := impl.ParseEvents(h, "7"+char+"call 3 0 2"); (got.Code == impl.OK) != (b == ' ') {
			t.Errorf("the byte %d between words: %+v", b, got)
		}
	}
}

// A text that is read, and whose events have a fault, has At 0.
func TestTextsWhoseEventsHaveFaults(t *testing.T) {
	h := exampleHouse()
	rows := map[string]int64{
		"7 call 0 0 2":                             impl.ErrRange,
		"7 call 3 3 2":                             impl.ErrRange,
		"7 call 3 0 3":                             impl.ErrRange,
		"7 call 3 0 999999999":                     impl.ErrRange,
		"7 call 3 1 1\n":                           impl.ErrForm,
		"7 call 3 0 2\n6 call 4 0 2":               impl.ErrForm,
		"7 call 3 0 2\n7 board 3 3":                impl.ErrRange,
		"7 call 3 0 2\n7 board 3 1":                impl.ErrForm,
		"7 call 3 0 2\n7 there 3 2":                impl.ErrForm,
		"7 call 3 0 2\n7 call 3 0 2":               impl.ErrTaken,
		"7 call 3 0 2\n7 board 2 0":                impl.ErrNone,
		"7 gone 3":                                 impl.ErrNone,
		"7 call 3 0 2\n8 gone 3\n9 gone 3":         impl.ErrForm,
		"7 call 3 0 2\n8 board 3 0\n9 there 3 1\n": impl.ErrForm,
	}
	for text, code := range rows {
		wantParsed(t, h, text, impl.EventsResult{Code: code})
		wantUnread(t, h, strings.TrimSuffix(text, "\n")+"\n!", int64(len(plainLines(text))))
	}
}

func TestHowLongATextMayBe(t *testing.T) {
	h := exampleHouse()
	text := func(count int, last string) string {
		return "0 call 1 0 2\n" + strings.Repeat(" ", count-13-len(last)) + last
	}
	for _, count := range []int{200, 2999, 3000} {
		wantParsed(t, h, text(count, "5 board 1 0"), impl.EventsResult{Events: []impl.Event{calls(0, 1, 0, 2), boards(5, 1, 0)}})
		wantParsed(t, h, text(count, "5 board 1 0\n"), impl.EventsResult{Events: []impl.Event{calls(0, 1, 0, 2), boards(5, 1, 0)}})
		wantUnread(t, h, text(count, "!"), 1)
	}
	for _, count := range []int{3001, 3002, 6000, 100000} {
		for _, last := range []string{"5 board 1 0", "5 board 1 0\n", "!", "\n"} {
			wantParsed(t, h, text(count, last), impl.EventsResult{Code: impl.ErrMany})
		}
	}
	var short strings.Builder
	for range 200 {
		short.WriteString("0 gone 1\n")
	}
	wantParsed(t, h, short.String(), impl.EventsResult{Code: impl.ErrNone})
	wantParsed(t, h, short.String()+"0 gone 1", impl.EventsResult{Code: impl.ErrMany})
	wantUnread(t, h, short.String()+"0 gone 1\n0 gone", 201)
	many := ""
	for id := range 200 {
		many += fmt.Sprintf("0 call %d 0 1\n", id+1)
	}
	if got := impl.ParseEvents(h, many); got.Code != impl.OK || len(got.Events) != 200 || got.Events[199] != calls(0, 200, 0, 1) {
		t.Errorf("200 calls: %+v", got)
	}
	wantParsed(t, h, many+"0 call 201 0 1\n", impl.EventsResult{Code: impl.ErrMany})
	wantParsed(t, h, many+"0 call 7 0 1\n", impl.EventsResult{Code: impl.ErrMany})
	wantUnread(t, h, many+"0 call 201 0 1\n0 call 202 0\n", 201)
}

func TestTextsInHousesWithFaults(t *testing.T) {
	for _, text := range []string{"", "\n", "7 call 3 0 2", "7 call 3 0 2\n!", "!", strings.Repeat(" ", 3001), strings.Repeat("0 gone 1\n", 300)} {
		wantParsed(t, nearHouse(), text, impl.EventsResult{Code: impl.ErrForm})
		wantParsed(t, outHouse(), text, impl.EventsResult{Code: impl.ErrRange})
		wantParsed(t, impl.House{}, text, impl.EventsResult{Code: impl.ErrRange})
	}
}

// trace is a list without a fault, of up to that many events.
func (d *dice) trace(h impl.House, most int64) []impl.Event {
	tick := []int64{0, 0, 5, 999999000, big1 - 300}[d.upTo(0, 4)]
	var list []impl.Event
	for range d.upTo(0, most) {
		tick += d.upTo(0, 1) * d.upTo(0, 2)
		ids := idsOf(list)
		if len(ids) == 0 || d.upTo(0, 2) == 0 {
			id := d.upTo(1, 500)
			from := d.upTo(0, h.Floors-1)
			if !slices.Contains(ids, id) {
				list = append(list, calls(tick, id, from, (from+d.upTo(1, h.Floors-1))%h.Floors))
			}
			continue
		}
		id := ids[d.upTo(0, int64(len(ids))-1)]
		own := eventsOf(list, id)
		switch goesOn := d.upTo(0, 5); told(own) {
		case "c":
			next := boards(tick, id, own[0].Floor)
			if goesOn == 0 {
				next = leaves(tick, id)
			}
			list = append(list, next)
		case "cb":
			next := arrives(tick, id, own[0].To)
			if goesOn == 0 {
				next = getsOut(tick, id, d.upTo(0, h.Floors-1))
			}
			list = append(list, next)
		}
	}
	return list
}

// spoiledTrace turns one number of one event, or leaves one out, doubles one or
// has two change places: often, but not always, there is a fault then.
func (d *dice) spoiledTrace(h impl.House, list []impl.Event) []impl.Event {
	list = slices.Clone(list)
	if len(list) == 0 {
		return []impl.Event{{Tick: d.upTo(-1, 1), Kind: d.upTo(0, 6), Id: d.upTo(0, 2), Floor: d.upTo(-1, h.Floors), To: d.upTo(-1, h.Floors)}}
	}
	i, j := d.upTo(0, int64(len(list))-1), d.upTo(0, int64(len(list))-1)
	e := &list[i]
	switch d.upTo(0, 8) {
	case 0:
		e.Tick = []int64{-1, 0, e.Tick - 1, e.Tick + 1, big1, big1 + 1}[d.upTo(0, 5)]
	case 1:
		e.Kind = d.upTo(0, 6)
	case 2:
		e.Id = []int64{0, 1, e.Id + 1, list[j].Id, big1, big1 + 1}[d.upTo(0, 5)]
	case 3:
		e.Floor = d.upTo(-1, h.Floors)
	case 4:
		e.To = d.upTo(-1, h.Floors)
	case 5:
		return slices.Delete(list, int(i), int(i)+1)
	case 6:
		return slices.Insert(list, int(i), list[j])
	case 7:
		list[i], list[j] = list[j], list[i]
	case 8:
		*e = list[j]
	}
	return list
}

// Traces of all kinds, without and with up to four faults.
func TestListsOfAllKinds(t *testing.T) {
	d := &dice{state: 11}
	codes := map[int64]int{}
	for _, h := range groupHouses() {
		for _, most := range []int64{0, 1, 3, 9, 40, 200} {
			for range 40 {
				list := d.trace(h, most)
				if impl.TraceFault(h, list) != impl.OK {
					t.Fatalf("%+v has a fault", list)
				}
				holdsEvents(t, h, list)
				for range 4 {
					list = d.spoiledTrace(h, list)
					holdsEvents(t, h, list)
					codes[impl.TraceFault(h, list)]++
				}
				holdsEvents(t, nearHouse(), list)
				holdsEvents(t, outHouse(), list)
			}
		}
	}
	for _, code := range []int64{impl.OK, impl.ErrForm, impl.ErrRange, impl.ErrNone, impl.ErrText, impl.ErrTaken} {
		if codes[code] < 20 {
			t.Errorf("the code %d was told %d times", code, codes[code])
		}
	}
}

// spoiledText turns, puts in or takes out a byte of a text, or a line.
func (d *dice) spoiledText(text string) string {
	at := int(d.upTo(0, int64(len(text))))
	lines := strings.SplitAfter(text, "\n")
	i := d.upTo(0, int64(len(lines))-1)
	bit := string(" 0019x\n\t-\xff"[d.upTo(0, 9)])
	switch d.upTo(0, 5) {
	case 0:
		return text[:at] + bit + text[at:]
	case 1:
		return text[:at] + bit + text[min(len(text), at+1):]
	case 2:
		return text[:at] + text[min(len(text), at+1):]
	case 3:
		lines[i] += lines[i]
	case 4:
		lines[i] = ""
	case 5:
		lines[i] = strings.ReplaceAll(lines[i], " ", "  ")
	}
	return strings.Join(lines, "")
}

// isShort tells whether all numbers of events have nine digits at most.
func isShort(list []impl.Event) bool {
	return !slices.ContainsFunc(list, func(e impl.Event) bool { return max(e.Tick, e.Id) > 999999999 })
}

// readsBack holds promise 11, its second half, of a list without a fault.
func readsBack(t *testing.T, h impl.House, list []impl.Event) bool {
	t.Helper()
	text := impl.FormatEvents(h, list)
	want := impl.EventsResult{Events: list}
	if len(text) > 3000 {
		want = impl.EventsResult{Code: impl.ErrMany}
	} else if !isShort(list) {
		want = impl.EventsResult{Code: impl.ErrText, At: int64(slices.IndexFunc(list, func(e impl.Event) bool { return !isShort([]impl.Event{e}) }))}
	}
	wantSeen(t, fmt.Sprintf("ParseEvents %q", text), impl.ParseEvents(h, text), want)
	if strings.Count(text, "\n") != len(list) {
		t.Fatalf("%d events are the text %q", len(list), text)
	}
	return want.Code == impl.OK
}

func TestEventsAreReadBack(t *testing.T) {
	d := &dice{state: 12}
	count := 0
	for _, h := range groupHouses() {
		for _, most := range []int64{0, 1, 3, 9, 40, 120, 200} {
			for range 40 {
				list := d.trace(h, most)
				if readsBack(t, h, list) {
					count++
				}
				text := impl.FormatEvents(h, list)
				for range 4 {
					text = d.spoiledText(text)
					wantSeen(t, fmt.Sprintf("ParseEvents %q", text), impl.ParseEvents(h, text), plainParsed(h, text))
				}
			}
		}
		for _, n := range []int64{1, 9, 10, 99999999, 100000000, 999999999, 1000000000, big1} {
			for _, tick := range []int64{0, n} {
				top := h.Floors - 1
				readsBack(t, h, []impl.Event{calls(tick, n, 0, top), boards(tick, n, 0), arrives(tick, n, top)})
				readsBack(t, h, []impl.Event{calls(tick, n, top, 0), boards(tick, n, top), getsOut(tick, n, top)})
				readsBack(t, h, []impl.Event{calls(tick, n, top, 0), leaves(tick, n)})
			}
		}
	}
	if count < 500 {
		t.Errorf("only %d lists were read back", count)
	}
}

func spoilEvents(list []impl.Event) {
	list = list[:cap(list)]
	for i := range list {
		list[i] = impl.Event{Tick: -7, Kind: 99}
	}
}

func spoilInts(list []int64) {
	list = list[:cap(list)]
	for i := range list {
		list[i] = -7
	}
}

func TestTracesShareNoMemory(t *testing.T) {
	for _, ticks := range []int64{0, 1, 30, 400} {
		call := func(g impl.Group) impl.TraceResult { return impl.TraceGroup(g, ticks) }
		for i, g := range append(groupsForMemory(), seenGroup(), storyGroup()) {
			all := roomOf(g)
			before := ownGroup(all)
			first, second := call(g), call(g)
			kept, events := ownGroup(second.Group), slices.Clone(second.Events)
			if first.Code != impl.OK || !sameGroups(all, before) {
				t.Errorf("TraceGroup of group %d for %d changes its argument, or tells %d", i, ticks, first.Code)
			}
			spoilGroup(first.Group)
			if !slices.Equal(first.Events, events) {
				t.Errorf("TraceGroup of group %d for %d: its lists share memory", i, ticks)
			}
			spoilEvents(first.Events)
			if !sameGroups(all, before) || !sameGroups(second.Group, kept) || !slices.Equal(second.Events, events) {
				t.Errorf("TraceGroup of group %d for %d: its answer is its argument's memory, or another answer's", i, ticks)
			}
			spoilGroup(all)
			if !sameGroups(second.Group, kept) || !slices.Equal(second.Events, events) {
				t.Errorf("TraceGroup of group %d for %d: its answer shares memory: %+v", i, ticks, second)
			}
		}
	}
}

func TestDiffsShareNoMemory(t *testing.T) {
	h := greatestHouse()
	for i, l := range ledgersForMemory() {
		for j, m := range ledgersForMemory() {
			oldRoom, nowRoom := l.People[:cap(l.People)], m.People[:cap(m.People)]
			oldBefore, nowBefore := slices.Clone(oldRoom), slices.Clone(nowRoom)
			first, second := impl.DiffLedgers(h, 3, l, m), impl.DiffLedgers(h, 3, l, m)
			kept := slices.Clone(second.Events)
			spoilEvents(first.Events)
			if !slices.Equal(oldRoom, oldBefore) || !slices.Equal(nowRoom, nowBefore) || !slices.Equal(second.Events, kept) {
				t.Errorf("DiffLedgers of %d and %d changes its arguments, or shares memory", i, j)
			}
			spoil(nowRoom)
			spoil(oldRoom)
			if !slices.Equal(second.Events, kept) {
				t.Errorf("DiffLedgers of %d and %d shares memory", i, j)
			}
			l, m = ledgersForMemory()[i], ledgersForMemory()[j]
		}
	}
}

// The lists of events are given with room behind them, which an append would fill.
func TestListsOfEventsShareNoMemory(t *testing.T) {
	h := exampleHouse()
	for _, list := range [][]impl.Event{nil, wholeList(), longList(60), longList(200), {call1(), {}}, longList(201)} {
		list = roomy(list)
		all := list[:cap(list)]
		before := slices.Clone(all)
		states, waits, text := impl.StatesOf(h, list), impl.WaitsOf(h, list), impl.FormatEvents(h, list)
		statesAgain, waitsAgain := impl.StatesOf(h, list), impl.WaitsOf(h, list)
		keptStates, keptWaits := slices.Clone(statesAgain.List), slices.Clone(waitsAgain.List)
		impl.TraceFault(h, list)
		spoilInts(states.List)
		spoilInts(waits.List)
		if !slices.Equal(all, before) {
			t.Errorf("%+v was changed to %+v", before, all)
		}
		if !slices.Equal(statesAgain.List, keptStates) || !slices.Equal(waitsAgain.List, keptWaits) {
			t.Errorf("the states and waits of %+v share memory", before)
		}
		first, second := impl.ParseEvents(h, text), impl.ParseEvents(h, text)
		kept := slices.Clone(second.Events)
		spoilEvents(first.Events)
		spoilEvents(all)
		if !slices.Equal(second.Events, kept) || !slices.Equal(statesAgain.List, keptStates) {
			t.Errorf("what was read of %q shares memory", text)
		}
	}
}

func call1() impl.Event {
	return calls(0, 1, 0, 2)
}

func TestNoEventsAndNobody(t *testing.T) {
	for _, h := range append(groupHouses(), nearHouse(), outHouse()) {
		none, empty := impl.Ledger{Next: 3}, impl.Ledger{Next: 3, People: fullLedger().People[:0]}
		one := people(person(1, 'w', 0, 1, 0, 0))
		for _, l := range []impl.Ledger{none, empty, one} {
			wantSeen(t, "of an empty old", impl.DiffLedgers(h, 1, empty, l), impl.DiffLedgers(h, 1, none, l))
			wantSeen(t, "of an empty now", impl.DiffLedgers(h, 1, l, empty), impl.DiffLedgers(h, 1, l, none))
		}
		for _, list := range [][]impl.Event{{}, wholeList()[:0]} {
			if impl.TraceFault(h, list) != impl.TraceFault(h, nil) || impl.FormatEvents(h, list) != impl.FormatEvents(h, nil) {
				t.Errorf("%+v: nil is another than an empty list", h)
			}
			if !sameInts(impl.StatesOf(h, list), impl.StatesOf(h, nil)) || !sameInts(impl.WaitsOf(h, list), impl.WaitsOf(h, nil)) {
				t.Errorf("%+v: the states or waits of nil are others than those of an empty list", h)
			}
		}
		empties, nils := freshGroup(h, 2), freshGroup(h, 2)
		empties.Ledger.People = fullLedger().People[:0]
		wantTraced(t, "of nobody", impl.TraceGroup(empties, 20), impl.TraceGroup(nils, 20))
	}
}

// seeing is a group that came of a new one, with all that its passengers saw and
// all that they were promised.
type seeing struct {
	living
	seen  []impl.Event
	plans map[int64]impl.Event
}

func (s *seeing) saw(t *testing.T, was impl.Ledger) []impl.Event {
	t.Helper()
	r := impl.DiffLedgers(s.House, s.Tick, was, s.Ledger)
	wantSeen(t, "DiffLedgers", r, plainDiff(s.House, s.Tick, was, s.Ledger))
	if r.Code != impl.OK {
		t.Fatalf("%+v becomes %+v: %+v", was, s.Ledger, r)
	}
	s.seen = append(s.seen, r.Events...)
	return r.Events
}

// callsUp has somebody call, and keeps where they were promised to come to.
func (s *seeing) callsUp(t *testing.T) {
	t.Helper()
	was := s.Ledger
	s.called(t)
	for _, e := range s.saw(t, was) {
		if e.Kind != impl.EventCall {
			t.Fatalf("%+v is seen in a call", e)
		}
		s.plans[e.Id] = e
	}
}

func (s *seeing) goesOn(t *testing.T, ticks int64) {
	t.Helper()
	r := impl.TraceGroup(s.Group, ticks)
	wantTraced(t, "TraceGroup", r, plainTrace(s.Group, ticks))
	s.Group = r.Group
	s.seen = append(s.seen, r.Events...)
}

// drifting goes on tick by tick: a trace never drifts.
func (s *seeing) drifting(t *testing.T, ticks int64) {
	t.Helper()
	for range ticks {
		was := s.Ledger
		s.tick(t)
		s.saw(t, was)
	}
}

// turnsBack restarts the group, or recalls it or lets it go on.
func (s *seeing) turnsBack(t *testing.T, kind int64) {
	t.Helper()
	was := s.Ledger
	switch kind {
	case 0, 1:
		s.Group = impl.RestartGroup(s.Group, kind == 0).Group
	default:
		s.Group = impl.RecallGroup(s.Group, !s.Recall).Group
	}
	for _, e := range s.saw(t, was) {
		if e.Kind != impl.EventGone {
			t.Fatalf("%+v is seen in a restart or a recall", e)
		}
	}
}

// holdsPromises holds that what everybody saw is a right trace in which they
// board where they called, and come where they want to go, or are let out, or
// gone; and that the states at its end are those of the ledger.
func (s *seeing) holdsPromises(t *testing.T) {
	t.Helper()
	for id, plan := range s.plans {
		own := eventsOf(s.seen, id)
		if fault := impl.TraceFault(s.House, own); fault != impl.OK {
			t.Fatalf("%+v: %d saw %+v, with the fault %d", s.House, id, own, fault)
		}
		for _, e := range own {
			if own[0] != plan || e.Kind == impl.EventBoard && e.Floor != plan.Floor || e.Kind == impl.EventThere && e.Floor != plan.To {
				t.Fatalf("%d was promised %+v and saw %+v", id, plan, own)
			}
		}
		for _, p := range who(s.Ledger, func(p impl.Person) bool { return p.Id == id }) {
			wantInts(t, "StatesOf", impl.StatesOf(s.House, own), impl.OK, p.State)
		}
	}
	if len(idsOf(s.seen)) != len(s.plans) {
		t.Fatalf("%d called, and %v saw something", len(s.plans), idsOf(s.seen))
	}
	if len(s.seen) > 200 {
		if fault := impl.TraceFault(s.House, s.seen); fault != impl.ErrMany {
			t.Fatalf("%d events have the fault %d", len(s.seen), fault)
		}
		return
	}
	holdsEvents(t, s.House, s.seen)
	if fault := impl.TraceFault(s.House, s.seen); fault != impl.OK {
		t.Fatalf("%+v: %+v has the fault %d", s.House, s.seen, fault)
	}
	readsBack(t, s.House, s.seen)
}

// comeTrue holds that everybody who waits or rides is there within the bound, if
// the group never drifts.
func (s *seeing) comeTrue(t *testing.T) {
	t.Helper()
	bound := impl.BoundOf(s.Group).Value
	if s.drifts || s.Recall || bound > 20000 {
		return
	}
	pending := who(s.Ledger, isOneOf(impl.StateWaits, impl.StateRides))
	for gone := int64(0); gone < bound && !impl.QuietGroup(s.Group); gone += 100 {
		r := impl.TraceGroup(s.Group, min(100, bound-gone))
		s.Group, s.seen = r.Group, append(s.seen, r.Events...)
	}
	for _, p := range pending {
		own := eventsOf(s.seen, p.Id)
		if last := own[len(own)-1]; told(own) != "cbt" || last.Floor != p.To {
			t.Fatalf("%+v: %+v saw %+v", s.House, p, own)
		}
		waits := impl.WaitsOf(s.House, own)
		if waits.Code != impl.OK || len(waits.List) != 1 || waits.List[0] < 0 || waits.List[0] != own[1].Tick-own[0].Tick {
			t.Fatalf("%+v waited %+v", own, waits)
		}
	}
	s.holdsPromises(t)
}

func seesAll(t *testing.T, h impl.House, shafts int64, d dice, drifts bool, ticks int64) {
	t.Helper()
	s := seeing{living{impl.NewGroup(h, shafts).Group, d, drifts}, nil, map[int64]impl.Event{}}
	longest := 3 + impl.RunBound(h).Value/15
	for s.Tick < ticks {
		switch n := s.dice.upTo(0, 199); {
		case n < 50:
			s.callsUp(t)
		case n < 53:
			s.turnsBack(t, n-50)
		case s.Recall && n < 70:
			s.turnsBack(t, 2)
		case drifts:
			s.drifting(t, s.dice.upTo(0, longest))
		default:
			s.goesOn(t, s.dice.upTo(0, longest))
		}
		if s.dice.upTo(0, 30) == 0 {
			s.holdsPromises(t)
		}
	}
	s.holdsPromises(t)
	s.comeTrue(t)
}

// Promise 11, over long walks.
func TestPassengersSeeWhatTheyWerePromised(t *testing.T) {
	for i, h := range append(groupHouses(), heavyHouse()) {
		for shafts := range int64(3) {
			for _, drifts := range []bool{false, true} {
				seesAll(t, h, shafts+1, dice{state: uint64(i)*10 + uint64(shafts)}, drifts, max(600, 2*impl.RunBound(h).Value))
			}
		}
	}
	d := &dice{state: 55}
	for range 60 {
		h := d.house()
		seesAll(t, h, d.upTo(1, 3), *d, false, 200)
		seesAll(t, h, d.upTo(1, 3), *d, true, 200)
	}
}

// traceAnswersEverywhere tells answers as texts, since lists are not compared.
func traceAnswersEverywhere() []string {
	var list []string
	numbers := []int64{least, -1, 0, 1, 3, big1, greatest}
	texts := []string{"", "\n", "!", "0 call 1 0 1\n", "0 call 1 0 1\n0 gone 1", "9 gone 1\n", "0 call 1 0 1\n!\n"}
	for _, h := range housesOfAllKinds() {
		for _, text := range texts {
			list = append(list, fmt.Sprint(impl.ParseEvents(h, text)))
		}
		for _, a := range numbers {
			for _, b := range numbers {
				odd := impl.Ledger{Next: a, People: []impl.Person{{Id: b, From: a, To: b, State: a, At: b}}}
				right := people(person(1, 'w', 0, 1, 0, 0))
				moved := people(impl.Person{Id: 1, To: 1, State: b, At: a})
				for _, old := range []impl.Ledger{{}, odd, right, moved} {
					for _, now := range []impl.Ledger{{}, odd, right, moved} {
						list = append(list, fmt.Sprint(impl.DiffLedgers(h, a, old, now), impl.DiffLedgers(h, 7, old, now)))
					}
				}
				for _, g := range []impl.Group{{House: h, Ledger: odd, Tick: b}, withTick(freshGroup(h, 1, moved.People...), a), withTick(freshGroup(h, 1, right.People...), 7)} {
					list = append(list, fmt.Sprint(impl.TraceGroup(g, b), impl.TraceGroup(g, 5)))
				}
				for kind := int64(-1); kind <= 6; kind++ {
					events := []impl.Event{{Tick: a, Kind: kind, Id: b, Floor: a, To: b}, {Tick: 1, Kind: kind, Id: 1, Floor: a, To: b}, calls(1, a, 0, 1), {Tick: 1, Kind: kind, Id: a, Floor: b}}
					for i := range events {
						part := events[i:]
						list = append(list, fmt.Sprint(impl.EventFault(h, part[0]), impl.TraceFault(h, part), impl.StatesOf(h, part), impl.WaitsOf(h, part), impl.FormatEvents(h, part)))
					}
				}
			}
		}
	}
	return list
}

// Every call of chapter 10 answers whatever it is given, and the same again when
// other calls stood between.
func TestTraceAnswersEverywhere(t *testing.T) {
	sameTwice(t, traceAnswersEverywhere)
}
