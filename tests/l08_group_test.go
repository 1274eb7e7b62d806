package tests

import (
	"cmp"
	"fmt"
	"slices"
	"strings"
	"testing"

	"loop.example/g00155/impl"
)

// What the document tells of a group, worked out the plain way: sentence by
// sentence, by the functions of the chapters ahead, which have tests of their own.

func plainDeckFault(h impl.House, d impl.Deck) int64 {
	codes := []int64{impl.ShaftFault(h, d.Shaft), impl.SpansFault(h, d.Spans), 0, 0}
	doors := []int64{d.Shaft.Lower.Door, d.Shaft.Upper.Door}
	for i, phase := range []int64{d.PhaseL, d.PhaseU} {
		if !slices.Contains([]int64{impl.PhaseGo, impl.PhaseOpen, impl.PhaseShut}, phase) {
			codes[2] = impl.ErrRange
		}
		if doors[i] != 0 && phase == impl.PhaseGo {
			codes[3] = impl.ErrForm
		}
	}
	return cmp.Or(codes...)
}

func plainGroupFault(g impl.Group) int64 {
	if fault := impl.HouseFault(g.House); fault != impl.OK {
		return fault
	}
	if len(g.Decks) == 0 || len(g.Decks) > 3 {
		return impl.ErrMany
	}
	for _, d := range g.Decks {
		if fault := plainDeckFault(g.House, d); fault != impl.OK {
			return fault
		}
	}
	if fault := impl.LedgerFault(g.House, g.Ledger); fault != impl.OK {
		return fault
	}
	isBeyond := func(p impl.Person) bool { return p.Shaft >= int64(len(g.Decks)) }
	switch {
	case slices.ContainsFunc(g.Ledger.People, isBeyond):
		return impl.ErrForm
	case g.Tick < 0 || g.Tick > big1:
		return impl.ErrRange
	}
	return impl.OK
}

// usersOf are those who wait for a car or ride in it.
func usersOf(g impl.Group, c numbered) int {
	return len(who(g.Ledger, is(impl.StateWaits, c.shaft, c.car), is(impl.StateRides, c.shaft, c.car)))
}

func carsOf(g impl.Group) []numbered {
	return everyCar()[:2*len(g.Decks)]
}

func plainAssigned(g impl.Group, from, to int64) impl.WhereResult {
	if fault := cmp.Or(plainGroupFault(g), impl.CallFault(g.House, from, to)); fault != impl.OK {
		return impl.WhereResult{Code: fault}
	}
	preferred := int64(1)
	if from+to < g.House.Floors {
		preferred = 0
	}
	best := slices.MinFunc(carsOf(g), func(a, b numbered) int {
		byCar := cmp.Compare(a.car, b.car)
		if preferred == 1 {
			byCar = -byCar
		}
		return cmp.Or(cmp.Compare(usersOf(g, a), usersOf(g, b)), byCar, cmp.Compare(a.shaft, b.shaft))
	})
	return impl.WhereResult{Shaft: best.shaft, Car: best.car}
}

func plainCalled(g impl.Group, from, to int64) impl.GroupResult {
	if fault := plainGroupFault(g); fault != impl.OK {
		return impl.GroupResult{Code: fault}
	}
	if g.Recall {
		return impl.GroupResult{Code: impl.ErrDown}
	}
	where := plainAssigned(g, from, to)
	call := impl.AddCall(g.House, g.Ledger, from, to, where.Shaft, where.Car)
	if code := cmp.Or(where.Code, call.Code); code != impl.OK {
		return impl.GroupResult{Code: code}
	}
	g.Ledger = call.Ledger
	return impl.GroupResult{Id: call.Id, Group: g}
}

func carAt(d impl.Deck, car int64) impl.Car {
	return []impl.Car{d.Shaft.Lower, d.Shaft.Upper}[car]
}

// stopAt is the floor at which a car is, as the document words it.
func stopAt(h impl.House, c impl.Car) int64 {
	low, high := impl.LevelOf(h, -1).Value, impl.LevelOf(h, h.Floors).Value
	switch floor := impl.FloorAt(h, max(low, min(c.Pos, high))).Value; floor {
	case -1:
		return 0
	case h.Floors:
		return h.Floors - 1
	default:
		return floor
	}
}

func plainNeed(g impl.Group, c numbered) impl.NeedResult {
	if fault := plainGroupFault(g); fault != impl.OK {
		return impl.NeedResult{Code: fault}
	}
	if !slices.Contains(carsOf(g), c) {
		return impl.NeedResult{Code: impl.ErrRange}
	}
	if !g.Recall {
		return impl.NeedOf(g.House, g.Ledger, c.shaft, c.car)
	}
	riders := who(g.Ledger, is(impl.StateRides, c.shaft, c.car))
	if len(riders) == 0 {
		return impl.NeedResult{Code: impl.ErrNone}
	}
	return impl.NeedResult{Id: riders[0].Id, Floor: stopAt(g.House, carAt(g.Decks[c.shaft], c.car))}
}

func plainLead(g impl.Group, shaft int64) impl.WhereResult {
	if fault := plainGroupFault(g); fault != impl.OK {
		return impl.WhereResult{Code: fault}
	}
	if shaft < 0 || shaft >= int64(len(g.Decks)) {
		return impl.WhereResult{Code: impl.ErrRange}
	}
	lead, least := impl.WhereResult{Code: impl.ErrNone}, int64(greatest)
	for car := range int64(2) {
		if need := plainNeed(g, numbered{shaft, car}); need.Code == impl.OK && need.Id < least {
			lead, least = impl.WhereResult{Shaft: shaft, Car: car}, need.Id
		}
	}
	return lead
}

func ownGroup(g impl.Group) impl.Group {
	g.Decks = slices.Clone(g.Decks)
	g.Ledger.People = slices.Clone(g.Ledger.People)
	return g
}

// plainCommands are the commands of both cars; the spans of the deck grow.
func plainCommands(g impl.Group, shaft int64) [2]impl.Command {
	h, d := g.House, &g.Decks[shaft]
	commands := [2]impl.Command{{Brake: true}, {Brake: true}}
	if lead := plainLead(g, shaft); !d.Held && lead.Code == impl.OK {
		other := plainNeed(g, numbered{shaft, 1 - lead.Car})
		if other.Code != impl.OK {
			other.Floor = -2
		}
		goals := impl.GoalsFor(h, d.Shaft, lead.Car, plainNeed(g, numbered{shaft, lead.Car}).Floor, other.Floor)
		d.Spans = impl.ExtendSpans(h, d.Spans, goals.Lower, goals.Upper).Spans
		commands[0] = impl.CommandFor(h, d.Shaft.Lower, impl.AimOf(d.Spans.Lower, goals.Lower))
		commands[1] = impl.CommandFor(h, d.Shaft.Upper, impl.AimOf(d.Spans.Upper, goals.Upper))
	}
	for car, phase := range []int64{d.PhaseL, d.PhaseU} {
		switch phase {
		case impl.PhaseOpen:
			commands[car] = impl.Command{Open: true}
		case impl.PhaseShut:
			commands[car] = impl.Command{}
		}
	}
	return commands
}

// plainDoors is what is done at doors that stand open or are shut again.
func plainDoors(g *impl.Group, shaft int64) {
	h, d := g.House, &g.Decks[shaft]
	for car, phase := range []*int64{&d.PhaseL, &d.PhaseU} {
		c := carAt(*d, int64(car))
		switch {
		case *phase == impl.PhaseOpen && c.Door == h.Door && g.Recall:
			g.Ledger = impl.LetOut(h, g.Ledger, shaft, int64(car), stopAt(h, c)).Ledger
			*phase = impl.PhaseShut
		case *phase == impl.PhaseOpen && c.Door == h.Door:
			g.Ledger = impl.AlightAt(h, g.Ledger, shaft, int64(car), stopAt(h, c)).Ledger
			g.Ledger = impl.BoardAt(h, g.Ledger, shaft, int64(car), stopAt(h, c)).Ledger
			*phase = impl.PhaseShut
		case *phase == impl.PhaseShut && c.Door == 0:
			*phase = impl.PhaseGo
		}
	}
}

func plainTurn(g *impl.Group, shaft, driftL, driftU int64) {
	h, d := g.House, &g.Decks[shaft]
	if d.Held && d.Shaft.Lower.Vel == 0 && d.Shaft.Upper.Vel == 0 {
		d.Held, d.Spans = false, impl.SensedSpans(h, d.Shaft).Spans
	}
	for car, phase := range []*int64{&d.PhaseL, &d.PhaseU} {
		need := plainNeed(*g, numbered{shaft, int64(car)})
		if *phase == impl.PhaseGo && !d.Held && need.Code == impl.OK && impl.StandsAt(h, carAt(*d, int64(car)), need.Floor) {
			*phase = impl.PhaseOpen
		}
	}
	commands := plainCommands(*g, shaft)
	d.Shaft = impl.StepShaft(h, d.Shaft, commands[0], commands[1], driftL, driftU).Shaft
	plainDoors(g, shaft)
	if !d.Held {
		d.Spans = impl.ReleaseSpans(h, d.Spans, d.Shaft).Spans
	}
}

func plainTicked(g impl.Group, driftL, driftU int64) impl.GroupResult {
	drift := g.House.Drift
	switch fault := plainGroupFault(g); {
	case fault != impl.OK:
		return impl.GroupResult{Code: fault}
	case driftL < -drift, driftL > drift, driftU < -drift, driftU > drift:
		return impl.GroupResult{Code: impl.ErrRange}
	case g.Tick == big1:
		return impl.GroupResult{Code: impl.ErrMany}
	}
	g = ownGroup(g)
	g.Tick++
	for shaft := range g.Decks {
		plainTurn(&g, int64(shaft), driftL, driftU)
	}
	return impl.GroupResult{Group: g}
}

func plainRestarted(g impl.Group, keep bool) impl.GroupResult {
	if fault := plainGroupFault(g); fault != impl.OK {
		return impl.GroupResult{Code: fault}
	}
	g = ownGroup(g)
	for i := range g.Decks {
		d := &g.Decks[i]
		d.PhaseL, d.PhaseU, d.Held = impl.PhaseGo, impl.PhaseGo, true
		if d.Shaft.Lower.Door != 0 {
			d.PhaseL = impl.PhaseShut
		}
		if d.Shaft.Upper.Door != 0 {
			d.PhaseU = impl.PhaseShut
		}
	}
	if !keep {
		g.Ledger = impl.DropWaiting(g.House, g.Ledger).Ledger
	}
	return impl.GroupResult{Group: g}
}

func plainRecalled(g impl.Group, recall bool) impl.GroupResult {
	if fault := plainGroupFault(g); fault != impl.OK {
		return impl.GroupResult{Code: fault}
	}
	if recall {
		g.Ledger = impl.DropWaiting(g.House, g.Ledger).Ledger
	}
	g.Recall = recall
	return impl.GroupResult{Group: g}
}

func plainQuiet(g impl.Group) bool {
	doors := int64(0)
	for _, d := range g.Decks {
		doors += d.Shaft.Lower.Door + d.Shaft.Upper.Door
	}
	return plainGroupFault(g) == impl.OK && len(who(g.Ledger, isOneOf(0, 1))) == 0 && doors == 0
}

func plainSettled(g impl.Group, ticks int64) impl.GroupResult {
	if fault := plainGroupFault(g); fault != impl.OK {
		return impl.GroupResult{Code: fault}
	}
	if ticks < 0 || ticks > 20000 {
		return impl.GroupResult{Code: impl.ErrRange}
	}
	r := impl.GroupResult{Group: g}
	for gone := int64(0); gone < ticks && !plainQuiet(r.Group); gone++ {
		r = plainTicked(r.Group, 0, 0)
		if r.Code != impl.OK {
			return r
		}
		r.Id = gone + 1
	}
	return r
}

func plainBound(g impl.Group) impl.IntResult {
	if fault := plainGroupFault(g); fault != impl.OK {
		return impl.IntResult{Code: fault}
	}
	users := int64(len(who(g.Ledger, isOneOf(0, 1))))
	return impl.IntResult{Value: impl.MulTop(2*users+2, impl.ServeBound(g.House).Value)}
}

func sameGroups(a, b impl.Group) bool {
	return a.House == b.House && slices.Equal(a.Decks, b.Decks) && sameLedgers(a.Ledger, b.Ledger) && a.Tick == b.Tick && a.Recall == b.Recall
}

func sameGrouped(a, b impl.GroupResult) bool {
	return a.Code == b.Code && a.Id == b.Id && sameGroups(a.Group, b.Group)
}

// wantGrouped holds an answer, and that a group that is told has no fault.
func wantGrouped(t *testing.T, name string, g impl.Group, got, want impl.GroupResult) {
	t.Helper()
	if !sameGrouped(got, want) {
		t.Fatalf("%s of %+v is %+v, not %+v", name, g, got, want)
	}
	if got.Code == impl.OK && impl.GroupFault(got.Group) != impl.OK {
		t.Fatalf("%s of %+v is %+v, which has the fault %d", name, g, got, impl.GroupFault(got.Group))
	}
}

func wantWhere(t *testing.T, name string, g impl.Group, got, want impl.WhereResult) {
	t.Helper()
	if got != want {
		t.Fatalf("%s of %+v is %+v, not %+v", name, g, got, want)
	}
}

func holdsTicked(t *testing.T, g impl.Group, driftL, driftU int64) {
	t.Helper()
	wantGrouped(t, fmt.Sprint("TickGroup by ", driftL, ", ", driftU), g, impl.TickGroup(g, driftL, driftU), plainTicked(g, driftL, driftU))
}

func holdsCalled(t *testing.T, g impl.Group, from, to int64) {
	t.Helper()
	wantWhere(t, fmt.Sprint("AssignCall from ", from, " to ", to), g, impl.AssignCall(g, from, to), plainAssigned(g, from, to))
	wantGrouped(t, fmt.Sprint("CallLift from ", from, " to ", to), g, impl.CallLift(g, from, to), plainCalled(g, from, to))
}

func holdsNeeded(t *testing.T, g impl.Group) {
	t.Helper()
	for shaft := int64(-1); shaft <= 3; shaft++ {
		for car := int64(-1); car <= 2; car++ {
			if got, want := impl.NeedIn(g, shaft, car), plainNeed(g, numbered{shaft, car}); got != want {
				t.Fatalf("NeedIn %d, %d of %+v is %+v, not %+v", shaft, car, g, got, want)
			}
		}
		wantWhere(t, fmt.Sprint("LeadOf ", shaft), g, impl.LeadOf(g, shaft), plainLead(g, shaft))
	}
}

// holdsGroup asks of one group all functions, and holds that it stays as it was.
func holdsGroup(t *testing.T, g impl.Group) {
	t.Helper()
	before, h := ownGroup(g), g.House
	if got, want := impl.GroupFault(g), plainGroupFault(g); got != want {
		t.Fatalf("GroupFault of %+v is %d, not %d", g, got, want)
	}
	if got, want := impl.QuietGroup(g), plainQuiet(g); got != want {
		t.Fatalf("QuietGroup of %+v is %t, not %t", g, got, want)
	}
	if got, want := impl.BoundOf(g), plainBound(g); got != want {
		t.Fatalf("BoundOf %+v is %+v, not %+v", g, got, want)
	}
	holdsNeeded(t, g)
	for _, from := range []int64{-1, 0, 1, h.Floors - 1, h.Floors} {
		for _, to := range []int64{0, h.Floors - 1, h.Floors - 2} {
			holdsCalled(t, g, from, to)
		}
	}
	for _, d := range []int64{-h.Drift, 0, h.Drift, -h.Drift - 1, h.Drift + 1} {
		holdsTicked(t, g, d, 0)
		holdsTicked(t, g, -d, d)
	}
	for _, yes := range []bool{false, true} {
		wantGrouped(t, "RestartGroup", g, impl.RestartGroup(g, yes), plainRestarted(g, yes))
		wantGrouped(t, "RecallGroup", g, impl.RecallGroup(g, yes), plainRecalled(g, yes))
	}
	for _, ticks := range []int64{-1, 0, 1, 3, 20001} {
		wantGrouped(t, fmt.Sprint("SettleGroup for ", ticks), g, impl.SettleGroup(g, ticks), plainSettled(g, ticks))
	}
	if !sameGroups(g, before) {
		t.Fatalf("%+v was changed to %+v", before, g)
	}
}

// shaft is one without a fault; mostly its cars stand at floors, often they do
// not, and often they move.
func (d *dice) shaft(h impl.House) impl.Shaft {
	low, high := impl.LowEnd(h).Value, impl.HighEnd(h).Value
	car := func() impl.Car {
		c := impl.Car{Pos: d.upTo(low, high)}
		switch d.upTo(0, 4) {
		case 0:
			c.Vel = d.upTo(-h.Speed, h.Speed)
		case 1:
			c.Door = d.upTo(0, h.Door)
		case 2, 3:
			c.Pos = impl.LevelOf(h, d.upTo(-1, h.Floors)).Value + d.upTo(-h.Level, h.Level)
			c.Door = d.upTo(0, 3) * d.upTo(0, h.Door) / 3
		}
		return c
	}
	for {
		s := impl.Shaft{Lower: car(), Upper: car()}
		if s.Upper.Pos < s.Lower.Pos {
			s.Lower, s.Upper = s.Upper, s.Lower
		}
		if impl.ShaftFault(h, s) == impl.OK {
			return s
		}
	}
}

func (d *dice) spans(h impl.House) impl.Spans {
	for {
		ends := []int64{d.upTo(-1, h.Floors), d.upTo(-1, h.Floors), d.upTo(-1, h.Floors), d.upTo(-1, h.Floors)}
		slices.Sort(ends)
		if ends[1] < ends[2] {
			return spansOf(ends[0], ends[1], ends[2], ends[3])
		}
	}
}

func (d *dice) phase(c impl.Car) int64 {
	if c.Door != 0 {
		return d.upTo(1, 2)
	}
	return []int64{0, 0, 0, 1, 2}[d.upTo(0, 4)]
}

func (d *dice) deck(h impl.House) impl.Deck {
	s := d.shaft(h)
	x := impl.SensedSpans(h, s).Spans
	if d.upTo(0, 2) == 0 {
		x = d.spans(h)
	}
	return impl.Deck{Shaft: s, Spans: x, PhaseL: d.phase(s.Lower), PhaseU: d.phase(s.Upper), Held: d.upTo(0, 4) == 0}
}

// ledgerFor is one whose people have the shafts that there are.
func (d *dice) ledgerFor(h impl.House, shafts, most int64) impl.Ledger {
	l := d.ledger(h, most)
	riders := map[numbered]int64{}
	for i := range l.People {
		p := &l.People[i]
		p.Shaft %= shafts
		c := numbered{p.Shaft, p.Car}
		if p.State == impl.StateRides && riders[c] == h.Load {
			p.State = impl.StateGone
		} else if p.State == impl.StateRides {
			riders[c]++
		}
	}
	return l
}

// group is one without a fault; not all of them could come of a new one.
func (d *dice) group(h impl.House, most int64) impl.Group {
	g := impl.Group{House: h, Tick: []int64{0, 0, 1, 77, big1 - 3, big1 - 1, big1}[d.upTo(0, 6)], Recall: d.upTo(0, 3) == 0}
	for range d.upTo(1, 3) {
		g.Decks = append(g.Decks, d.deck(h))
	}
	g.Ledger = d.ledgerFor(h, int64(len(g.Decks)), most)
	return g
}

// spoiledGroup turns one thing of a group to what is at or beyond a bound.
func (d *dice) spoiledGroup(g impl.Group) impl.Group {
	g = ownGroup(g)
	if len(g.Decks) == 0 {
		return g
	}
	deck := &g.Decks[d.upTo(0, int64(len(g.Decks))-1)]
	numbers := []*int64{
		&deck.PhaseL, &deck.PhaseU, &deck.Spans.Lower.Low, &deck.Spans.Lower.High, &deck.Spans.Upper.Low, &deck.Spans.Upper.High,
		&deck.Shaft.Lower.Door, &deck.Shaft.Upper.Door, &deck.Shaft.Lower.Vel, &deck.Shaft.Upper.Vel, &deck.Shaft.Lower.Pos, &deck.Shaft.Upper.Pos,
	}
	switch d.upTo(0, 5) {
	case 0:
		g.Tick = []int64{least, -1, 0, big1, big1 + 1, greatest}[d.upTo(0, 5)]
	case 1:
		g.Ledger = d.spoiled(g.House, g.Ledger)
	case 2:
		g.Decks = slices.Repeat(g.Decks, 2)[:d.upTo(0, 2*int64(len(g.Decks)))]
	default:
		*numbers[d.upTo(0, int64(len(numbers))-1)] = []int64{least, -1, 0, 1, 2, 3, g.House.Door, g.House.Floors, greatest}[d.upTo(0, 8)]
	}
	return g
}

func groupHouses() []impl.House {
	return append(rightHouses(), smallHouse(), driftHouse())
}

// Groups of all kinds, without and with up to three faults, under all that may
// be asked of them.
func TestGroupsOfAllKinds(t *testing.T) {
	d := &dice{state: 8}
	for _, h := range groupHouses() {
		for _, most := range []int64{0, 1, 3, 8, 20, 60} {
			for range 25 {
				g := d.group(h, most)
				holdsGroup(t, g)
				for range 3 {
					g = d.spoiledGroup(g)
					holdsGroup(t, g)
				}
			}
		}
		for _, house := range []impl.House{nearHouse(), outHouse(), {}} {
			g := d.group(h, 5)
			g.House = house
			holdsGroup(t, g)
		}
	}
}

func TestGroupConstants(t *testing.T) {
	if impl.PhaseGo != 0 || impl.PhaseOpen != 1 || impl.PhaseShut != 2 {
		t.Error(impl.PhaseGo, impl.PhaseOpen, impl.PhaseShut)
	}
}

// freshDeck has its cars at the lowest and the highest floor.
func freshDeck(h impl.House) impl.Deck {
	top := h.Floors - 1
	return impl.Deck{
		Shaft: impl.Shaft{Lower: standing(0), Upper: standing(top * h.Gap)},
		Spans: spansOf(0, 0, top, top),
	}
}

// freshGroup is written out, so that it does not hang on NewGroup.
func freshGroup(h impl.House, shafts int, list ...impl.Person) impl.Group {
	g := impl.Group{House: h, Ledger: people(list...)}
	for range shafts {
		g.Decks = append(g.Decks, freshDeck(h))
	}
	return g
}

func withDecks(g impl.Group, decks ...impl.Deck) impl.Group {
	g.Decks = decks
	return g
}

func withTick(g impl.Group, tick int64) impl.Group {
	g.Tick = tick
	return g
}

func recalled(g impl.Group) impl.Group {
	g.Recall = true
	return g
}

// turnedDeck is a fresh deck of the example, with something turned.
func turnedDeck(turns ...func(*impl.Deck)) impl.Deck {
	d := freshDeck(exampleHouse())
	for _, turn := range turns {
		turn(&d)
	}
	return d
}

func wantGroupFault(t *testing.T, name string, g impl.Group, want int64) {
	t.Helper()
	if got := impl.GroupFault(g); got != want {
		t.Errorf("%s: GroupFault is %d, not %d", name, got, want)
	}
}

func TestGroupFaultOfDecks(t *testing.T) {
	for _, h := range groupHouses() {
		wants := []int64{impl.ErrMany, impl.OK, impl.OK, impl.OK, impl.ErrMany, impl.ErrMany}
		for shafts, want := range wants {
			wantGroupFault(t, fmt.Sprint(shafts, " decks"), freshGroup(h, shafts), want)
		}
		wantGroupFault(t, "1000 decks", freshGroup(h, 1000), impl.ErrMany)
	}
}

// deckFault is a way in which a deck of the example may be wrong.
type deckFault struct {
	name string
	code int64
	turn func(*impl.Deck)
}

// deckFaults are in the order in which they are asked.
func deckFaults() []deckFault {
	return []deckFault{
		{"Lower too low", impl.ErrRange, func(d *impl.Deck) { d.Shaft.Lower.Pos = -453 }},
		{"Upper moves with its door open", impl.ErrForm, func(d *impl.Deck) { d.Shaft.Upper.Vel, d.Shaft.Upper.Door, d.PhaseU = 10, 1, 1 }},
		{"cars too near", impl.ErrForm, func(d *impl.Deck) { d.Shaft.Lower.Pos = d.Shaft.Upper.Pos - 99 }},
		{"Upper comes too high", impl.ErrRange, func(d *impl.Deck) { d.Shaft.Upper = impl.Car{Pos: 1252, Vel: 20} }},
		{"a span too high", impl.ErrRange, func(d *impl.Deck) { d.Spans.Upper.High = 4 }},
		{"spans not apart", impl.ErrForm, func(d *impl.Deck) { d.Spans.Lower.High = d.Spans.Upper.Low }},
		{"a phase beyond", impl.ErrRange, func(d *impl.Deck) { d.PhaseL = 3 }},
		{"goes with its door open", impl.ErrForm, func(d *impl.Deck) { d.Shaft.Upper.Door, d.PhaseU = 1, 0 }},
	}
}

func TestGroupFaultOfADeck(t *testing.T) {
	h := exampleHouse()
	rows := []deckFault{
		{"nothing", impl.OK, func(d *impl.Deck) {}},
		{"Lower at the lowest place", impl.OK, func(d *impl.Deck) { d.Shaft.Lower.Pos = -452 }},
		{"Upper at the highest place", impl.OK, func(d *impl.Deck) { d.Shaft.Upper.Pos = 1252 }},
		{"Upper too high", impl.ErrRange, func(d *impl.Deck) { d.Shaft.Upper.Pos = 1253 }},
		{"Lower too fast", impl.ErrRange, func(d *impl.Deck) { d.Shaft.Lower.Vel = 51 }},
		{"Door too wide", impl.ErrRange, func(d *impl.Deck) { d.Shaft.Lower.Door, d.PhaseL = 3, 1 }},
		{"Lower comes too low", impl.ErrRange, func(d *impl.Deck) { d.Shaft.Lower = impl.Car{Pos: -450, Vel: -20} }},
		{"cars just apart", impl.OK, func(d *impl.Deck) { d.Shaft.Lower.Pos = 700 }},
		{"cars that brake just apart", impl.OK, func(d *impl.Deck) { d.Shaft.Lower = impl.Car{Pos: 690, Vel: 20} }},
		{"cars that brake too near", impl.ErrForm, func(d *impl.Deck) { d.Shaft.Lower = impl.Car{Pos: 691, Vel: 20} }},
		{"a span too low", impl.ErrRange, func(d *impl.Deck) { d.Spans.Lower.Low = -2 }},
		{"spans of all floors", impl.OK, func(d *impl.Deck) { d.Spans = spansOf(-1, 1, 2, 3) }},
		{"spans elsewhere than the cars", impl.OK, func(d *impl.Deck) { d.Spans = spansOf(2, 2, 3, 3) }},
		{"a span inside out", impl.ErrForm, func(d *impl.Deck) { d.Spans.Lower = impl.Span{Low: 1} }},
		{"Held", impl.OK, func(d *impl.Deck) { d.Held = true }},
		{"Held, with a phase beyond", impl.ErrRange, func(d *impl.Deck) { d.Held, d.PhaseU = true, 3 }},
	}
	for _, r := range append(rows, deckFaults()...) {
		wrong := turnedDeck(r.turn)
		wantGroupFault(t, r.name, withDecks(freshGroup(h, 1), wrong), r.code)
		wantGroupFault(t, r.name+", in the last deck", withDecks(freshGroup(h, 1), freshDeck(h), freshDeck(h), wrong), r.code)
	}
}

func TestGroupFaultOfPhasesAndDoors(t *testing.T) {
	h := exampleHouse()
	sides := []struct {
		name        string
		phase, door func(*impl.Deck) *int64
	}{
		{"Lower", func(d *impl.Deck) *int64 { return &d.PhaseL }, func(d *impl.Deck) *int64 { return &d.Shaft.Lower.Door }},
		{"Upper", func(d *impl.Deck) *int64 { return &d.PhaseU }, func(d *impl.Deck) *int64 { return &d.Shaft.Upper.Door }},
	}
	for _, side := range sides {
		for _, phase := range []int64{least, -1, 0, 1, 2, 3, greatest} {
			for door := range h.Door + 1 {
				want := int64(impl.OK)
				if phase < 0 || phase > 2 {
					want = impl.ErrRange
				} else if phase == 0 && door > 0 {
					want = impl.ErrForm
				}
				d := freshDeck(h)
				*side.phase(&d), *side.door(&d) = phase, door
				name := fmt.Sprintf("%s with the phase %d and the door %d", side.name, phase, door)
				wantGroupFault(t, name, withDecks(freshGroup(h, 1), d), want)
				wantGroupFault(t, name+", in another deck", withDecks(freshGroup(h, 1), freshDeck(h), d), want)
			}
		}
	}
	both := turnedDeck(func(d *impl.Deck) { d.Shaft.Lower.Door, d.PhaseU = 1, 3 })
	wantGroupFault(t, "a phase beyond, of the upper car, ahead of a door of the lower one", withDecks(freshGroup(h, 1), both), impl.ErrRange)
}

// Of two faults of one deck the first is told; of faults in two decks that of
// the first deck.
func TestGroupFaultAsksDecksInOrder(t *testing.T) {
	h, faults := exampleHouse(), deckFaults()
	for i, a := range faults {
		for j, b := range faults {
			name := a.name + ", and " + b.name
			two := withDecks(freshGroup(h, 1), turnedDeck(a.turn), turnedDeck(b.turn))
			wantGroupFault(t, name+" in two decks", two, a.code)
			two.Ledger.Next, two.Tick = 0, -1
			wantGroupFault(t, name+" in two decks, and no ledger", two, a.code)
			if j > i && i > 3 { // those of cars turn the same numbers
				wantGroupFault(t, name+" in one deck", withDecks(freshGroup(h, 1), turnedDeck(a.turn, b.turn)), a.code)
			}
		}
	}
	rows := []struct {
		name string
		d    impl.Deck
		want int64
	}{
		{"a car ahead of spans", turnedDeck(faults[1].turn, faults[4].turn), impl.ErrForm},
		{"cars too near ahead of spans", turnedDeck(faults[2].turn, faults[4].turn), impl.ErrForm},
		{"cars too near ahead of phases", turnedDeck(faults[2].turn, faults[6].turn), impl.ErrForm},
		{"a car too low ahead of spans not apart", turnedDeck(faults[0].turn, faults[5].turn), impl.ErrRange},
		{"a car too low ahead of a door", turnedDeck(faults[0].turn, faults[7].turn), impl.ErrRange},
		{"spans not apart ahead of phases", turnedDeck(faults[5].turn, faults[6].turn), impl.ErrForm},
		{"a span too high ahead of a door", turnedDeck(faults[4].turn, faults[7].turn), impl.ErrRange},
	}
	for _, r := range rows {
		wantGroupFault(t, r.name, withDecks(freshGroup(h, 1), r.d), r.want)
	}
}

func TestGroupFaultOfPeopleAndTick(t *testing.T) {
	h := exampleHouse()
	rows := []struct {
		name string
		g    impl.Group
		want int64
	}{
		{"Next 0", impl.Group{House: h, Decks: []impl.Deck{freshDeck(h)}}, impl.ErrRange},
		{"too many people", freshGroup(h, 1, crowd(61, 1, someone(0))...), impl.ErrMany},
		{"60 people", freshGroup(h, 1, crowd(60, 1, someone(0))...), impl.OK},
		{"from a floor to itself", freshGroup(h, 1, person(1, 'w', 1, 1, 0, 0)), impl.ErrForm},
		{"to no floor", freshGroup(h, 1, person(1, 'w', 1, 3, 0, 0)), impl.ErrRange},
		{"too many wait", freshGroup(h, 1, crowd(5, 1, person(0, 'w', 1, 2, 0, 0))...), impl.ErrMany},
		{"too many ride", freshGroup(h, 1, crowd(3, 1, person(0, 'r', 1, 2, 0, 0))...), impl.ErrMany},
		{"Shaft 0 of 1", freshGroup(h, 1, person(1, 'w', 1, 2, 0, 1)), impl.OK},
		{"Shaft 1 of 1", freshGroup(h, 1, person(1, 'w', 1, 2, 1, 0)), impl.ErrForm},
		{"Shaft 1 of 2", freshGroup(h, 2, person(1, 'w', 1, 2, 1, 0)), impl.OK},
		{"Shaft 2 of 2", freshGroup(h, 2, person(1, 'w', 1, 2, 2, 0)), impl.ErrForm},
		{"Shaft 2 of 3", freshGroup(h, 3, person(1, 'w', 1, 2, 2, 0)), impl.OK},
		{"Shaft 3 of 3", freshGroup(h, 3, person(1, 'w', 1, 2, 3, 0)), impl.ErrRange},
		{"Shaft -1", freshGroup(h, 3, person(1, 'w', 1, 2, -1, 0)), impl.ErrRange},
		{"one who is gone, of Shaft 1 of 1", freshGroup(h, 1, person(1, 'g', 1, 2, 1, 0)), impl.ErrForm},
		{"the last of several, of Shaft 2 of 2", freshGroup(h, 2, person(1, 'w', 1, 2, 1, 0), person(2, 't', 1, 2, 0, 0), person(3, 't', 1, 2, 2, 1)), impl.ErrForm},
		{"Tick -1", withTick(freshGroup(h, 1), -1), impl.ErrRange},
		{"Tick 0", withTick(freshGroup(h, 1), 0), impl.OK},
		{"Tick MaxBig", withTick(freshGroup(h, 1), big1), impl.OK},
		{"Tick above MaxBig", withTick(freshGroup(h, 1), big1+1), impl.ErrRange},
		{"Tick the least", withTick(freshGroup(h, 1), least), impl.ErrRange},
		{"Tick the greatest", withTick(freshGroup(h, 1), greatest), impl.ErrRange},
		{"in Recall", recalled(freshGroup(h, 1)), impl.OK},
		{"in Recall, and one waits", recalled(freshGroup(h, 1, person(1, 'w', 1, 2, 0, 1))), impl.OK},
		{"a person of no deck ahead of Tick", withTick(freshGroup(h, 1, person(1, 'w', 1, 2, 1, 0)), -1), impl.ErrForm},
		{"a ledger ahead of a person of no deck", freshGroup(h, 1, person(1, 'w', 1, 2, 1, 0), person(2, 'w', 1, 3, 0, 0)), impl.ErrRange},
		{"a crowd ahead of a person of no deck", freshGroup(h, 1, crowd(5, 1, person(0, 'w', 1, 2, 1, 0))...), impl.ErrMany},
		{"no decks ahead of a ledger", withDecks(freshGroup(h, 1, person(1, 'w', 1, 1, 0, 0))), impl.ErrMany},
		{"a deck ahead of a ledger", withDecks(freshGroup(h, 1, crowd(61, 1, someone(0))...), turnedDeck(deckFaults()[7].turn)), impl.ErrForm},
		{"many decks ahead of a deck", withDecks(freshGroup(h, 1), turnedDeck(deckFaults()[7].turn), freshDeck(h), freshDeck(h), freshDeck(h)), impl.ErrMany},
		{"a house too near ahead of decks", freshGroup(nearHouse(), 0), impl.ErrForm},
		{"a house too near ahead of Tick", withTick(freshGroup(nearHouse(), 1), -1), impl.ErrForm},
		{"a house out of its bounds ahead of decks", freshGroup(outHouse(), 0), impl.ErrRange},
		{"nothing", impl.Group{}, impl.ErrRange},
	}
	for _, r := range rows {
		wantGroupFault(t, r.name, r.g, r.want)
	}
}

func TestNewGroups(t *testing.T) {
	for _, h := range groupHouses() {
		for shafts := range 3 {
			want := impl.GroupResult{Group: freshGroup(h, shafts+1)}
			wantGrouped(t, fmt.Sprint("NewGroup of ", shafts+1), want.Group, impl.NewGroup(h, int64(shafts+1)), want)
			if !impl.QuietGroup(want.Group) {
				t.Errorf("a new group of %+v is not quiet", h)
			}
		}
		for _, shafts := range append(outside(1, 3), 0, 4) {
			wantGrouped(t, fmt.Sprint("NewGroup of ", shafts), impl.Group{}, impl.NewGroup(h, shafts), impl.GroupResult{Code: impl.ErrRange})
		}
	}
	for _, shafts := range []int64{least, -1, 0, 1, 3, 4, greatest} {
		wantGrouped(t, "NewGroup of a house too near", impl.Group{}, impl.NewGroup(nearHouse(), shafts), impl.GroupResult{Code: impl.ErrForm})
		wantGrouped(t, "NewGroup of a house out of its bounds", impl.Group{}, impl.NewGroup(outHouse(), shafts), impl.GroupResult{Code: impl.ErrRange})
	}
	if got := impl.NewGroup(exampleHouse(), 2).Group; got.Ledger.Next != 1 || got.Decks[1].Shaft.Upper.Pos != 800 || got.Decks[1].Spans != spansOf(0, 0, 2, 2) {
		t.Error(got)
	}
}

// users are people told by digits: how many the lower and the upper car of one
// shaft after the other have. The first of a car waits, the second rides, and so on.
func users(counts string) []impl.Person {
	var list []impl.Person
	for i, count := range []byte(strings.ReplaceAll(counts, " ", "")) {
		for n := range count - '0' {
			kind := "wr"[n%2]
			list = append(list, person(int64(len(list))+1, kind, 0, 1, int64(i/2), int64(i%2)))
		}
	}
	return list
}

func TestAssignCallByHand(t *testing.T) {
	h := wideHouse() // 7 floors
	rows := []struct {
		counts     string
		from, to   int64
		shaft, car int64
	}{
		{"00", 0, 1, 0, 0}, {"00", 6, 0, 0, 0}, {"00", 0, 6, 0, 0}, {"00", 6, 1, 0, 1}, {"00", 1, 6, 0, 1}, {"00", 6, 5, 0, 1},
		{"00", 3, 4, 0, 1}, {"00", 4, 2, 0, 0}, {"00", 2, 4, 0, 0}, {"00", 3, 2, 0, 0}, {"00", 4, 3, 0, 1},
		{"10", 0, 1, 0, 1}, {"10", 6, 5, 0, 1}, {"01", 0, 1, 0, 0}, {"01", 6, 5, 0, 0}, {"11", 0, 1, 0, 0}, {"11", 6, 5, 0, 1},
		{"32", 0, 1, 0, 1}, {"23", 6, 5, 0, 0},
		{"00 00 00", 0, 1, 0, 0}, {"00 00 00", 6, 5, 0, 1}, {"22 22 22", 0, 6, 0, 0}, {"22 22 22", 1, 6, 0, 1},
		{"10 00 00", 0, 1, 1, 0}, {"10 10 00", 0, 1, 2, 0}, {"10 10 10", 0, 1, 0, 1}, {"11 10 10", 0, 1, 1, 1}, {"11 11 10", 0, 1, 2, 1},
		{"01 00 00", 6, 5, 1, 1}, {"01 01 00", 6, 5, 2, 1}, {"01 01 01", 6, 5, 0, 0}, {"11 01 01", 6, 5, 1, 0}, {"11 11 01", 6, 5, 2, 0},
		{"22 21 12", 0, 1, 2, 0}, {"22 21 12", 6, 5, 1, 1}, {"22 12 21", 0, 1, 1, 0}, {"22 12 21", 6, 5, 2, 1},
		{"33 33 32", 0, 1, 2, 1}, {"33 33 23", 6, 5, 2, 0}, {"33 23 33", 6, 5, 1, 0}, {"03 30 00", 6, 5, 1, 1}, {"03 30 00", 0, 1, 0, 0},
		{"11 10", 0, 1, 1, 1}, {"11 01", 6, 5, 1, 0}, {"00 00", 6, 5, 0, 1}, {"01 00", 6, 5, 1, 1},
	}
	for _, r := range rows {
		g := freshGroup(h, len(strings.Fields(r.counts)), users(r.counts)...)
		wantWhere(t, fmt.Sprintf("AssignCall %+v", r), g, impl.AssignCall(g, r.from, r.to), impl.WhereResult{Shaft: r.shaft, Car: r.car})
		g.Recall = true
		wantWhere(t, fmt.Sprintf("AssignCall in Recall %+v", r), g, impl.AssignCall(g, r.from, r.to), impl.WhereResult{Shaft: r.shaft, Car: r.car})
	}
}

// Those who neither wait nor ride are not counted, and those of another car are
// not counted for this one.
func TestAssignCallCountsUsersAlone(t *testing.T) {
	h := exampleHouse()
	done := []impl.Person{person(1, 't', 0, 1, 0, 0), person(2, 'o', 0, 1, 0, 0), person(3, 'g', 0, 1, 0, 0)}
	rows := []struct {
		name string
		g    impl.Group
		want impl.WhereResult
	}{
		{"three are done", freshGroup(h, 2, done...), impl.WhereResult{}},
		{"and one waits", freshGroup(h, 2, append(slices.Clone(done), person(4, 'w', 0, 1, 0, 0))...), impl.WhereResult{Shaft: 1}},
		{"and one rides", freshGroup(h, 2, append(slices.Clone(done), person(4, 'r', 0, 1, 0, 0))...), impl.WhereResult{Shaft: 1}},
		{"one waits, one rides: two", freshGroup(h, 1, person(4, 'w', 0, 1, 0, 0), person(5, 'r', 0, 1, 0, 0), person(6, 'w', 0, 1, 0, 1)), impl.WhereResult{Car: 1}},
	}
	for _, r := range rows {
		wantWhere(t, r.name, r.g, impl.AssignCall(r.g, 0, 1), r.want)
	}
	for _, way := range [][2]int64{{-1, 0}, {0, -1}, {3, 0}, {0, 3}, {least, 1}, {1, greatest}, {-1, -1}} {
		g := freshGroup(h, 1)
		wantWhere(t, fmt.Sprint("AssignCall ", way), g, impl.AssignCall(g, way[0], way[1]), impl.WhereResult{Code: impl.ErrRange})
	}
	g := freshGroup(h, 3)
	wantWhere(t, "AssignCall from 2 to 2", g, impl.AssignCall(g, 2, 2), impl.WhereResult{Code: impl.ErrForm})
}

// busyGroup has as many who wait as there may be.
func busyGroup(h impl.House) impl.Group {
	return freshGroup(h, 1, crowd(int(h.Queue), 1, person(0, 'w', 0, 1, 0, 0))...)
}

// packedGroup has 60 people who all wait or ride, and place in the queue.
func packedGroup() impl.Group {
	g := freshGroup(greatestHouse(), 3)
	g.Ledger = fullLedger()
	return g
}

func TestCallLiftByHand(t *testing.T) {
	h := exampleHouse()
	g := freshGroup(h, 2, person(1, 'w', 0, 1, 0, 0), person(4, 'r', 0, 1, 1, 1))
	g.Ledger.Next, g.Tick = 9, 77
	want := impl.GroupResult{Id: 9, Group: ownGroup(g)}
	want.Group.Ledger = impl.Ledger{Next: 10, People: append(slices.Clone(g.Ledger.People), person(9, 'w', 1, 2, 0, 1))}
	wantGrouped(t, "CallLift from 1 to 2", g, impl.CallLift(g, 1, 2), want)
	want.Group.Ledger.People[2] = person(9, 'w', 1, 0, 1, 0)
	wantGrouped(t, "CallLift from 1 to 0", g, impl.CallLift(g, 1, 0), want)
	atEnd := freshGroup(h, 1)
	atEnd.Ledger.Next = big1
	rows := []struct {
		name     string
		g        impl.Group
		from, to int64
		code     int64
	}{
		{"in Recall", recalled(g), 0, 1, impl.ErrDown},
		{"in Recall ahead of no floor", recalled(g), -1, 1, impl.ErrDown},
		{"in Recall ahead of the same floor", recalled(g), 1, 1, impl.ErrDown},
		{"in Recall ahead of a full queue", recalled(busyGroup(h)), 0, 1, impl.ErrDown},
		{"from no floor", g, -1, 1, impl.ErrRange},
		{"to no floor", g, 1, 3, impl.ErrRange},
		{"to the same floor", g, 1, 1, impl.ErrForm},
		{"to the same floor ahead of a full queue", busyGroup(h), 1, 1, impl.ErrForm},
		{"to no floor ahead of a full queue", busyGroup(h), 1, 3, impl.ErrRange},
		{"a full queue", busyGroup(h), 0, 1, impl.ErrBusy},
		{"60 who wait or ride", packedGroup(), 0, 1, impl.ErrMany},
		{"Next is MaxBig", atEnd, 0, 1, impl.ErrMany},
	}
	for _, r := range rows {
		wantGroupFault(t, r.name, r.g, impl.OK)
		wantGrouped(t, r.name, r.g, impl.CallLift(r.g, r.from, r.to), impl.GroupResult{Code: r.code})
	}
}

// Calls one behind the other are spread over all cars, and have Ids of their own.
func TestCallsAreSpread(t *testing.T) {
	g := freshGroup(wideHouse(), 2)
	wants := []impl.Person{
		person(1, 'w', 0, 1, 0, 0), person(2, 'w', 5, 6, 0, 1), person(3, 'w', 0, 1, 1, 0), person(4, 'w', 0, 1, 1, 1),
		person(5, 'w', 6, 2, 0, 1), person(6, 'w', 6, 1, 1, 1), person(7, 'w', 6, 0, 0, 0), person(8, 'w', 6, 0, 1, 0), person(9, 'w', 2, 4, 0, 0),
	}
	for i, want := range wants {
		r := impl.CallLift(g, want.From, want.To)
		if r.Code != impl.OK || r.Id != want.Id || !slices.Equal(r.Group.Ledger.People, wants[:i+1]) {
			t.Fatalf("call %d: %+v", i+1, r)
		}
		g = r.Group
	}
}

func TestNeedInOutOfRecall(t *testing.T) {
	h := exampleHouse()
	g := freshGroup(h, 2, person(2, 'w', 2, 1, 0, 0), person(3, 'r', 0, 1, 1, 0), person(5, 'r', 2, 1, 0, 1), person(6, 'r', 1, 0, 0, 1), person(7, 'w', 1, 2, 0, 1))
	rows := []struct {
		shaft, car int64
		want       impl.NeedResult
	}{
		{0, 0, impl.NeedResult{Id: 2, Floor: 2}},
		{0, 1, impl.NeedResult{Id: 5, Floor: 1}},
		{1, 0, impl.NeedResult{Id: 3, Floor: 1}},
		{1, 1, impl.NeedResult{Code: impl.ErrNone}},
		{-1, 0, impl.NeedResult{Code: impl.ErrRange}}, {2, 0, impl.NeedResult{Code: impl.ErrRange}}, {3, 0, impl.NeedResult{Code: impl.ErrRange}},
		{0, -1, impl.NeedResult{Code: impl.ErrRange}}, {0, 2, impl.NeedResult{Code: impl.ErrRange}}, {1, 2, impl.NeedResult{Code: impl.ErrRange}},
		{2, 2, impl.NeedResult{Code: impl.ErrRange}}, {least, 0, impl.NeedResult{Code: impl.ErrRange}}, {0, greatest, impl.NeedResult{Code: impl.ErrRange}},
	}
	for _, r := range rows {
		if got := impl.NeedIn(g, r.shaft, r.car); got != r.want {
			t.Errorf("NeedIn of %d, %d is %+v, not %+v", r.shaft, r.car, got, r.want)
		}
	}
	for _, shafts := range []int{1, 2, 3} {
		all := freshGroup(h, shafts)
		for shaft := int64(-1); shaft < 4; shaft++ {
			want := int64(impl.ErrNone)
			if shaft < 0 || shaft >= int64(shafts) {
				want = impl.ErrRange
			}
			if got := impl.NeedIn(all, shaft, 1); got != (impl.NeedResult{Code: want}) {
				t.Errorf("NeedIn of %d of %d shafts is %+v", shaft, shafts, got)
			}
		}
	}
}

// In Recall it is the floor at which the car is, whoever rides wherever.
func TestNeedInRecall(t *testing.T) {
	h := exampleHouse()
	rows := []struct{ lower, floorL, upper, floorU int64 }{
		{0, 0, 800, 2}, {2, 0, 798, 2}, {400, 1, 800, 2}, {0, 0, 400, 1},
		{199, 0, 601, 2}, {200, 0, 600, 1}, {201, 1, 599, 1}, {599, 1, 801, 2}, {600, 1, 900, 2}, {601, 2, 949, 2},
		{-300, 0, 1100, 2}, {-150, 0, 950, 2}, {-149, 0, 951, 2}, {-452, 0, 1252, 2}, {-301, 0, 1101, 2}, {-299, 0, 0, 0}, {800, 2, 1100, 2},
	}
	for _, r := range rows {
		d := impl.Deck{Shaft: impl.Shaft{Lower: standing(r.lower), Upper: standing(r.upper)}, Spans: spansOf(-1, 0, 2, 3)}
		g := recalled(withDecks(freshGroup(h, 1,
			person(1, 'w', 1, 2, 1, 0), person(2, 'w', 1, 2, 1, 1), person(3, 't', 0, 2, 1, 0), person(4, 'r', 2, 1, 1, 1),
			person(6, 'r', 0, 2, 1, 0), person(7, 'r', 0, 1, 1, 0), person(9, 'r', 0, 1, 1, 1)), freshDeck(h), d))
		for car, want := range []impl.NeedResult{{Id: 6, Floor: r.floorL}, {Id: 4, Floor: r.floorU}} {
			if got := impl.NeedIn(g, 1, int64(car)); got != want {
				t.Errorf("NeedIn of the car %d at %+v is %+v, not %+v", car, r, got, want)
			}
		}
		if got := impl.NeedIn(g, 0, 0); got != (impl.NeedResult{Code: impl.ErrNone}) {
			t.Errorf("nobody: NeedIn is %+v", got)
		}
	}
	moving := recalled(withDecks(freshGroup(h, 1, person(1, 'r', 0, 2, 0, 0)), turnedDeck(func(d *impl.Deck) { d.Shaft.Lower = impl.Car{Pos: 190, Vel: 50} })))
	if got := impl.NeedIn(moving, 0, 0); got != (impl.NeedResult{Id: 1}) {
		t.Errorf("a car that moves: NeedIn is %+v: where it comes to is not asked", got)
	}
	waits := recalled(freshGroup(h, 1, person(1, 'w', 0, 2, 0, 0), person(2, 'w', 2, 0, 0, 1)))
	for car := int64(-1); car <= 2; car++ {
		want := impl.NeedResult{Code: impl.ErrNone}
		if car < 0 || car > 1 {
			want.Code = impl.ErrRange
		}
		if got := impl.NeedIn(waits, 0, car); got != want {
			t.Errorf("in Recall some wait: NeedIn of the car %d is %+v", car, got)
		}
		if got := impl.NeedIn(waits, 1, car); got != (impl.NeedResult{Code: impl.ErrRange}) {
			t.Errorf("in Recall: NeedIn of a shaft beyond is %+v", got)
		}
	}
}

func TestLeadOfByHand(t *testing.T) {
	h := exampleHouse()
	full := []impl.Person{person(1, 'w', 0, 2, 1, 0), person(2, 'w', 2, 1, 1, 1), person(3, 'r', 0, 1, 1, 0), person(4, 'r', 0, 1, 1, 0)}
	others := []impl.Person{person(1, 'w', 0, 1, 0, 0), person(2, 'r', 0, 1, 0, 1), person(3, 't', 0, 1, 1, 0), person(4, 'g', 0, 1, 1, 1)}
	rows := []struct {
		name       string
		list       []impl.Person
		want, then int64 // the car that leads, out of Recall and in it; -1: none
	}{
		{"nobody", nil, -1, -1},
		{"others alone", others, -1, -1},
		{"one waits for the lower car", []impl.Person{person(1, 'w', 0, 1, 1, 0)}, 0, -1},
		{"one waits for the upper car", []impl.Person{person(1, 'w', 0, 1, 1, 1)}, 1, -1},
		{"one rides in the lower car", []impl.Person{person(1, 'r', 0, 1, 1, 0)}, 0, 0},
		{"one rides in the upper car", []impl.Person{person(1, 'r', 0, 1, 1, 1)}, 1, 1},
		{"the older waits for the lower car", []impl.Person{person(7, 'w', 2, 1, 1, 0), person(8, 'w', 0, 1, 1, 1)}, 0, -1},
		{"the older waits for the upper car", []impl.Person{person(7, 'w', 0, 1, 1, 1), person(8, 'w', 2, 1, 1, 0)}, 1, -1},
		{"the older rides in the lower car", []impl.Person{person(7, 'r', 2, 1, 1, 0), person(8, 'r', 0, 1, 1, 1)}, 0, 0},
		{"the older rides in the upper car", []impl.Person{person(7, 'r', 0, 1, 1, 1), person(8, 'r', 2, 1, 1, 0)}, 1, 1},
		{"the older waits, the younger rides", []impl.Person{person(7, 'w', 0, 1, 1, 1), person(8, 'r', 2, 1, 1, 0)}, 1, 0},
		{"the older rides, the younger waits", []impl.Person{person(7, 'r', 0, 1, 1, 1), person(8, 'w', 2, 1, 1, 0)}, 1, 1},
		{"the oldest waits, but that car is full", full, 1, 0},
	}
	for _, r := range rows {
		for i, want := range []int64{r.want, r.then} {
			g := freshGroup(h, 2, r.list...)
			g.Recall = i == 1
			where := impl.WhereResult{Shaft: 1, Car: want}
			if want < 0 {
				where = impl.WhereResult{Code: impl.ErrNone}
			}
			wantWhere(t, r.name, g, impl.LeadOf(g, 1), where)
			for _, shaft := range append(outside(0, 1), 2, 3) {
				wantWhere(t, r.name, g, impl.LeadOf(g, shaft), impl.WhereResult{Code: impl.ErrRange})
			}
		}
	}
	g := freshGroup(h, 2, others...)
	wantWhere(t, "LeadOf the other shaft", g, impl.LeadOf(g, 0), impl.WhereResult{})
}

// phased is a car with its phase, as a letter: g goes, o opens, s shuts.
type phased struct {
	pos, vel, door int64
	phase          byte
}

func (p phased) car() impl.Car {
	return impl.Car{Pos: p.pos, Vel: p.vel, Door: p.door}
}

func (p phased) number() int64 {
	return int64(strings.IndexByte("gos", p.phase))
}

func deckOf(lower, upper phased, x impl.Spans) impl.Deck {
	return impl.Deck{
		Shaft: impl.Shaft{Lower: lower.car(), Upper: upper.car()}, Spans: x,
		PhaseL: lower.number(), PhaseU: upper.number(),
	}
}

func heldDeck(d impl.Deck) impl.Deck {
	d.Held = true
	return d
}

// deckText tells a deck and the states of all people in a line: of each car Pos,
// Vel, Door and phase, then the spans.
func deckText(d impl.Deck, l impl.Ledger) string {
	car := func(c impl.Car, phase int64) string {
		return fmt.Sprintf("%d %d %d%c, ", c.Pos, c.Vel, c.Door, "gos"[phase])
	}
	text := car(d.Shaft.Lower, d.PhaseL) + car(d.Shaft.Upper, d.PhaseU)
	text += fmt.Sprintf("%d:%d %d:%d", d.Spans.Lower.Low, d.Spans.Lower.High, d.Spans.Upper.Low, d.Spans.Upper.High)
	if d.Held {
		text += " held"
	}
	return text + "; " + statesOf(l.People)
}

func ticked(t *testing.T, g impl.Group) impl.Group {
	t.Helper()
	r := impl.TickGroup(g, 0, 0)
	if r.Code != impl.OK || r.Id != 0 || r.Group.Tick != g.Tick+1 || r.Group.House != g.House || r.Group.Recall != g.Recall || len(r.Group.Decks) != len(g.Decks) {
		t.Fatalf("TickGroup of %+v is %+v", g, r)
	}
	return r.Group
}

// wantStory holds what the first deck of a group is in each of the next ticks.
func wantStory(t *testing.T, name string, g impl.Group, lines ...string) impl.Group {
	t.Helper()
	for i, line := range lines {
		g = ticked(t, g)
		if got := deckText(g.Decks[0], g.Ledger); got != line {
			t.Fatalf("%s, tick %d:\n%s, not\n%s", name, i+1, got, line)
		}
	}
	return g
}

// One who goes from 0 to 2 with the lower car: the upper one leaves floor 2 as
// soon as the other has somebody who goes there, ahead of its door being shut.
func TestStoryOfOneRide(t *testing.T) {
	g := freshGroup(exampleHouse(), 1, person(1, 'w', 0, 2, 0, 0))
	g = wantStory(t, "a ride up", g,
		"0 0 1o, 800 0 0g, 0:0 2:2; w",
		"0 0 2s, 800 0 0g, 0:0 2:2; r",
		"0 0 1s, 810 10 0g, 0:0 2:3; r",
		"0 0 0g, 830 20 0g, 0:0 2:3; r",
		"10 10 0g, 860 30 0g, 0:1 2:3; r",
		"30 20 0g, 900 40 0g, 0:1 2:3; r",
		"60 30 0g, 950 50 0g, 0:1 2:3; r",
		"100 40 0g, 1000 50 0g, 0:1 2:3; r",
		"150 50 0g, 1040 40 0g, 0:1 2:3; r",
		"200 50 0g, 1070 30 0g, 0:1 2:3; r",
		"250 50 0g, 1090 20 0g, 0:1 2:3; r",
		"300 50 0g, 1100 10 0g, 0:1 3:3; r",
		"350 50 0g, 1100 0 0g, 0:2 3:3; r",
		"400 50 0g, 1100 0 0g, 1:2 3:3; r",
		"450 50 0g, 1100 0 0g, 1:2 3:3; r",
		"500 50 0g, 1100 0 0g, 1:2 3:3; r",
		"550 50 0g, 1100 0 0g, 1:2 3:3; r",
		"600 50 0g, 1100 0 0g, 1:2 3:3; r",
		"650 50 0g, 1100 0 0g, 1:2 3:3; r",
		"700 50 0g, 1100 0 0g, 1:2 3:3; r",
		"740 40 0g, 1100 0 0g, 1:2 3:3; r",
		"770 30 0g, 1100 0 0g, 1:2 3:3; r",
		"790 20 0g, 1100 0 0g, 1:2 3:3; r",
		"800 10 0g, 1100 0 0g, 2:2 3:3; r",
		"800 0 0g, 1100 0 0g, 2:2 3:3; r",
		"800 0 1o, 1100 0 0g, 2:2 3:3; r",
		"800 0 2s, 1100 0 0g, 2:2 3:3; t",
		"800 0 1s, 1100 0 0g, 2:2 3:3; t",
		"800 0 0g, 1100 0 0g, 2:2 3:3; t",
		"800 0 0g, 1100 0 0g, 2:2 3:3; t",
	)
	if g.Tick != 30 || g.Ledger.People[0].At != 2 || !impl.QuietGroup(g) {
		t.Errorf("it ends with %+v", g)
	}
}

// turnedRound is a deck of a house that stands on its head.
func turnedRound(h impl.House, d impl.Deck) impl.Deck {
	flip := func(x impl.Span) impl.Span { return impl.Span{Low: h.Floors - 1 - x.High, High: h.Floors - 1 - x.Low} }
	return impl.Deck{
		Shaft:  impl.Shaft{Lower: turned(h, d.Shaft.Upper), Upper: turned(h, d.Shaft.Lower)},
		Spans:  impl.Spans{Lower: flip(d.Spans.Upper), Upper: flip(d.Spans.Lower)},
		PhaseL: d.PhaseU, PhaseU: d.PhaseL, Held: d.Held,
	}
}

// A ride down with the upper car is one up with the lower car, turned round, as
// long as they do not want the same floor.
func TestStoryTurnedRound(t *testing.T) {
	for _, h := range groupHouses() {
		top := h.Floors - 1
		up := freshGroup(h, 1, person(1, 'w', 0, top, 0, 0), person(2, 'w', 0, 1, 0, 0))
		down := freshGroup(h, 1, person(1, 'w', top, 0, 0, 1), person(2, 'w', top, top-1, 0, 1))
		if h.Queue < 2 {
			up.Ledger, down.Ledger = people(up.Ledger.People[0]), people(down.Ledger.People[0])
		}
		for range 300 {
			up, down = ticked(t, up), ticked(t, down)
			if turnedRound(h, up.Decks[0]) != down.Decks[0] || statesOf(up.Ledger.People) != statesOf(down.Ledger.People) {
				t.Fatalf("%+v: %s, but\n%s", h, deckText(up.Decks[0], up.Ledger), deckText(down.Decks[0], down.Ledger))
			}
		}
	}
}

// scene is a deck of the example, of which it is told what the next ticks do.
type scene struct {
	name  string
	deck  impl.Deck
	list  []impl.Person
	lines []string
}

func playScenes(t *testing.T, inRecall bool, scenes []scene) {
	t.Helper()
	for _, s := range scenes {
		g := withDecks(freshGroup(exampleHouse(), 1, s.list...), s.deck)
		g.Recall = inRecall
		wantGroupFault(t, s.name, g, impl.OK)
		wantStory(t, s.name, g, s.lines...)
	}
}

func TestTicksOfHeldDecks(t *testing.T) {
	one := []impl.Person{person(1, 'w', 1, 2, 0, 0)}
	playScenes(t, false, []scene{
		{"the lower car moves", heldDeck(deckOf(phased{100, 20, 0, 'g'}, phased{800, 0, 0, 'g'}, spansOf(0, 1, 2, 3))), one, []string{
			"110 10 0g, 800 0 0g, 0:1 2:3 held; w",
			"110 0 0g, 800 0 0g, 0:1 2:3 held; w",
			"120 10 0g, 800 0 0g, 0:1 2:2; w",
		}},
		{"the upper car moves", heldDeck(deckOf(phased{0, 0, 0, 'g'}, phased{800, -30, 0, 'g'}, spansOf(-1, 1, 2, 2))), one, []string{
			"0 0 0g, 780 -20 0g, -1:1 2:2 held; w",
			"0 0 0g, 770 -10 0g, -1:1 2:2 held; w",
			"0 0 0g, 770 0 0g, -1:1 2:2 held; w",
			"10 10 0g, 780 10 0g, 0:1 2:2; w",
		}},
		{"both move", heldDeck(deckOf(phased{100, -5, 0, 'g'}, phased{800, 15, 0, 'g'}, spansOf(0, 0, 1, 3))), nil, []string{
			"100 0 0g, 805 5 0g, 0:0 1:3 held; ",
			"100 0 0g, 805 0 0g, 0:0 1:3 held; ",
			"100 0 0g, 805 0 0g, 0:0 2:2; ",
		}},
		{"both stand, at the floor of the need", heldDeck(deckOf(phased{400, 0, 0, 'g'}, phased{800, 0, 0, 'g'}, spansOf(-1, -1, 0, 3))), one, []string{
			"400 0 1o, 800 0 0g, 1:1 2:2; w",
		}},
		{"one moves, the other stands at the floor of its need", heldDeck(deckOf(phased{400, 0, 0, 'g'}, phased{800, 15, 0, 'g'}, spansOf(1, 1, 2, 3))), one, []string{
			"400 0 0g, 805 5 0g, 1:1 2:3 held; w",
			"400 0 0g, 805 0 0g, 1:1 2:3 held; w",
			"400 0 1o, 800 -5 0g, 1:1 2:2; w",
		}},
		{"one moves, the other shuts its door", heldDeck(deckOf(phased{400, 0, 2, 's'}, phased{800, 40, 0, 'g'}, spansOf(1, 1, 2, 3))), one, []string{
			"400 0 1s, 830 30 0g, 1:1 2:3 held; w",
			"400 0 0g, 850 20 0g, 1:1 2:3 held; w",
			"400 0 0g, 860 10 0g, 1:1 2:3 held; w",
			"400 0 0g, 860 0 0g, 1:1 2:3 held; w",
			"400 0 1o, 850 -10 0g, 1:1 2:2; w",
		}},
		{"one moves, the other opens its door and lets in", heldDeck(deckOf(phased{400, 0, 1, 'o'}, phased{800, 40, 0, 'g'}, spansOf(1, 1, 2, 3))), one, []string{
			"400 0 2s, 830 30 0g, 1:1 2:3 held; r",
			"400 0 1s, 850 20 0g, 1:1 2:3 held; r",
		}},
		{"both nearest to one floor", heldDeck(deckOf(phased{380, 0, 0, 'g'}, phased{500, 0, 0, 'g'}, spansOf(-1, 1, 2, 3))), nil, []string{
			"380 0 0g, 500 0 0g, 1:1 2:2; ",
		}},
		{"both in the upper refuge", heldDeck(deckOf(phased{1050, 0, 0, 'g'}, phased{1200, 0, 0, 'g'}, spansOf(-1, 1, 2, 3))), nil, []string{
			"1050 0 0g, 1200 0 0g, 2:2 3:3; ",
		}},
	})
}

func TestTicksOfDoors(t *testing.T) {
	one := []impl.Person{person(1, 'w', 1, 2, 0, 0)}
	other := []impl.Person{person(1, 'w', 1, 2, 0, 1)}
	playScenes(t, false, []scene{
		{"a car comes to stand at the floor", deckOf(phased{400, 10, 0, 'g'}, phased{800, 0, 0, 'g'}, spansOf(1, 1, 2, 2)), one, []string{
			"400 0 0g, 800 0 0g, 1:1 2:2; w",
			"400 0 1o, 800 0 0g, 1:1 2:2; w",
			"400 0 2s, 800 0 0g, 1:1 2:2; r",
			"400 0 1s, 810 10 0g, 1:1 2:3; r",
			"400 0 0g, 830 20 0g, 1:1 2:3; r",
		}},
		{"the upper car comes to stand at the floor", deckOf(phased{0, 0, 0, 'g'}, phased{402, -2, 0, 'g'}, spansOf(0, 0, 1, 1)), other, []string{
			"0 0 0g, 402 0 0g, 0:0 1:1; w",
			"0 0 0g, 402 0 1o, 0:0 1:1; w",
			"0 0 0g, 402 0 2s, 0:0 1:1; r",
			"0 0 0g, 402 0 1s, 0:0 1:1; r",
			"0 0 0g, 402 0 0g, 0:0 1:1; r",
			"0 0 0g, 412 10 0g, 0:0 1:2; r",
		}},
		{"it stands just level, below", deckOf(phased{398, 0, 0, 'g'}, phased{800, 0, 0, 'g'}, spansOf(1, 1, 2, 2)), one, []string{"398 0 1o, 800 0 0g, 1:1 2:2; w"}},
		{"it stands just level, above", deckOf(phased{402, 0, 0, 'g'}, phased{800, 0, 0, 'g'}, spansOf(1, 1, 2, 2)), one, []string{"402 0 1o, 800 0 0g, 1:1 2:2; w"}},
		{"it is not level, below", deckOf(phased{397, 0, 0, 'g'}, phased{800, 0, 0, 'g'}, spansOf(1, 1, 2, 2)), one, []string{"400 3 0g, 800 0 0g, 1:1 2:2; w", "400 0 0g, 800 0 0g, 1:1 2:2; w", "400 0 1o, 800 0 0g, 1:1 2:2; w"}},
		{"it is level, but moves", deckOf(phased{400, 1, 0, 'g'}, phased{800, 0, 0, 'g'}, spansOf(1, 1, 2, 2)), one, []string{"400 0 0g, 800 0 0g, 1:1 2:2; w"}},
		{"it is at another floor", deckOf(phased{0, 0, 0, 'g'}, phased{800, 0, 0, 'g'}, spansOf(0, 0, 2, 2)), one, []string{"10 10 0g, 800 0 0g, 0:1 2:2; w"}},
		{"it opens, though it moves: it brakes first", deckOf(phased{380, 15, 0, 'o'}, phased{800, 0, 0, 'g'}, spansOf(1, 1, 2, 2)), one, []string{
			"385 5 0o, 800 0 0g, 1:1 2:2; w", "385 0 0o, 800 0 0g, 1:1 2:2; w", "385 0 1o, 800 0 0g, 1:1 2:2; w", "385 0 2s, 800 0 0g, 1:1 2:2; r",
		}},
		{"it shuts, though it is shut", deckOf(phased{400, 0, 0, 's'}, phased{800, 0, 0, 'g'}, spansOf(1, 1, 2, 2)), one, []string{"400 0 0g, 800 0 0g, 1:1 2:2; w", "400 0 1o, 800 0 0g, 1:1 2:2; w"}},
		{"it shuts, though it is shut and moves", deckOf(phased{300, 20, 0, 's'}, phased{800, 0, 0, 'g'}, spansOf(0, 1, 2, 2)), one, []string{"320 20 0g, 800 0 0g, 0:1 2:2; w"}},
		{"it shuts, though somebody waits", deckOf(phased{400, 0, 2, 's'}, phased{800, 0, 0, 'g'}, spansOf(1, 1, 2, 2)), one, []string{
			"400 0 1s, 800 0 0g, 1:1 2:2; w", "400 0 0g, 800 0 0g, 1:1 2:2; w", "400 0 1o, 800 0 0g, 1:1 2:2; w",
		}},
		{"it stands open already", deckOf(phased{400, 0, 2, 'o'}, phased{800, 0, 0, 'g'}, spansOf(1, 1, 2, 2)), one, []string{"400 0 2s, 800 0 0g, 1:1 2:2; r"}},
		{"it opens for nobody", deckOf(phased{400, 0, 1, 'o'}, phased{800, 0, 0, 'g'}, spansOf(1, 1, 2, 2)), nil, []string{
			"400 0 2s, 800 0 0g, 1:1 2:2; ", "400 0 1s, 800 0 0g, 1:1 2:2; ", "400 0 0g, 800 0 0g, 1:1 2:2; ", "400 0 0g, 800 0 0g, 1:1 2:2; ",
		}},
		{"both stand at floor 0 and 2, where nobody is", deckOf(phased{0, 0, 0, 'g'}, phased{800, 0, 0, 'g'}, spansOf(0, 0, 2, 2)), nil, []string{"0 0 0g, 800 0 0g, 0:0 2:2; "}},
		{"the other one has no need at floor 0", deckOf(phased{0, 0, 0, 'g'}, phased{400, 0, 0, 'g'}, spansOf(0, 0, 1, 1)), other, []string{"0 0 0g, 400 0 1o, 0:0 1:1; w"}},
	})
}

func TestTicksOfPeopleAtDoors(t *testing.T) {
	deck := deckOf(phased{400, 0, 1, 'o'}, phased{800, 0, 1, 'o'}, spansOf(1, 1, 2, 2))
	lowerOnly := deckOf(phased{400, 0, 1, 'o'}, phased{800, 0, 0, 'g'}, spansOf(1, 1, 2, 2))
	playScenes(t, false, []scene{
		{"a full car: one out, one in", lowerOnly, []impl.Person{
			person(1, 'r', 0, 2, 0, 0), person(2, 'r', 0, 1, 0, 0), person(3, 'w', 1, 0, 0, 0), person(4, 'w', 1, 2, 0, 0),
		}, []string{"400 0 2s, 810 10 0g, 1:1 2:3; rtrw", "400 0 1s, 830 20 0g, 1:1 2:3; rtrw", "400 0 0g, 860 30 0g, 1:1 2:3; rtrw"}},
		{"a full car: none out, none in", lowerOnly, []impl.Person{
			person(1, 'r', 0, 2, 0, 0), person(2, 'r', 0, 2, 0, 0), person(3, 'w', 1, 0, 0, 0),
		}, []string{"400 0 2s, 810 10 0g, 1:1 2:3; rrw"}},
		{"all out, two in", lowerOnly, []impl.Person{
			person(1, 'r', 0, 1, 0, 0), person(2, 'r', 0, 1, 0, 0), person(3, 'w', 1, 0, 0, 0), person(5, 'w', 1, 2, 0, 0), person(6, 'w', 1, 0, 0, 0),
		}, []string{"400 0 2s, 800 0 0g, 1:1 2:2; ttrrw"}},
		{"both open: each its own", deck, []impl.Person{
			person(1, 'r', 0, 1, 0, 0), person(2, 'r', 0, 2, 0, 0), person(3, 'r', 0, 2, 0, 1), person(4, 'r', 0, 1, 0, 1),
			person(5, 'w', 1, 2, 0, 0), person(6, 'w', 2, 1, 0, 0), person(7, 'w', 1, 2, 0, 1), person(8, 'w', 2, 0, 0, 1),
		}, []string{"400 0 2s, 800 0 2s, 1:1 2:2; trtrrwwr"}},
		{"the upper one is a tick behind", deckOf(phased{400, 0, 1, 'o'}, phased{800, 0, 0, 'o'}, spansOf(1, 1, 2, 2)), []impl.Person{
			person(1, 'r', 0, 1, 0, 0), person(2, 'r', 0, 2, 0, 1), person(3, 'w', 1, 2, 0, 0), person(4, 'w', 2, 0, 0, 1),
		}, []string{"400 0 2s, 800 0 1o, 1:1 2:2; trrw", "400 0 1s, 800 0 2s, 1:1 2:2; ttrr"}},
		{"who waits elsewhere stays, who goes elsewhere rides", lowerOnly, []impl.Person{
			person(1, 'r', 1, 0, 0, 0), person(2, 'w', 0, 1, 0, 0), person(3, 'w', 2, 1, 0, 0), person(4, 'w', 1, 2, 0, 1),
		}, []string{"400 0 2s, 800 0 0g, 1:1 2:2; rwww"}},
		{"in the refuge below: as at floor 0", deckOf(phased{-300, 0, 1, 'o'}, phased{800, 0, 0, 'g'}, spansOf(-1, -1, 2, 2)), []impl.Person{
			person(1, 'r', 1, 0, 0, 0), person(2, 'w', 0, 1, 0, 0), person(3, 'r', 0, 1, 0, 0),
		}, []string{"-300 0 2s, 800 0 0g, -1:-1 2:2; trr"}},
		{"beyond the refuge above: as at floor 2", deckOf(phased{0, 0, 0, 'g'}, phased{1250, 0, 1, 'o'}, spansOf(0, 0, 3, 3)), []impl.Person{
			person(1, 'r', 1, 2, 0, 1), person(2, 'w', 2, 1, 0, 1), person(3, 'r', 0, 1, 0, 1),
		}, []string{"0 0 0g, 1250 0 2s, 0:0 3:3; trr"}},
		{"between floors: as at the nearer", deckOf(phased{201, 0, 1, 'o'}, phased{600, 0, 1, 'o'}, spansOf(0, 0, 2, 2)), []impl.Person{
			person(1, 'r', 2, 1, 0, 0), person(2, 'r', 2, 0, 0, 0), person(3, 'r', 2, 1, 0, 1), person(4, 'r', 1, 2, 0, 1),
		}, []string{"201 0 2s, 600 0 2s, 0:1 2:2; trtr"}},
	})
}

func TestTicksWithoutALead(t *testing.T) {
	done := []impl.Person{person(1, 't', 0, 2, 0, 0), person(2, 'g', 0, 2, 0, 1), person(3, 'o', 0, 2, 0, 1)}
	for _, list := range [][]impl.Person{nil, done} {
		end := statesOf(list)
		playScenes(t, false, []scene{
			{"both brake, and spans are given back", deckOf(phased{100, 30, 0, 'g'}, phased{700, -15, 0, 'g'}, spansOf(-1, 1, 2, 3)), list, []string{
				"120 20 0g, 695 -5 0g, 0:1 2:2; " + end, "130 10 0g, 695 0 0g, 0:1 2:2; " + end, "130 0 0g, 695 0 0g, 0:1 2:2; " + end, "130 0 0g, 695 0 0g, 0:1 2:2; " + end,
			}},
			{"spans do not grow", deckOf(phased{100, 0, 0, 'g'}, phased{700, 0, 0, 'g'}, spansOf(0, 0, 2, 2)), list, []string{"100 0 0g, 700 0 0g, 0:0 2:2; " + end}},
			{"spans that are elsewhere stay", deckOf(phased{0, 0, 0, 'g'}, phased{400, 0, 0, 'g'}, spansOf(1, 1, 2, 3)), list, []string{"0 0 0g, 400 0 0g, 1:1 2:3; " + end}},
		})
	}
}

func TestTicksWithALead(t *testing.T) {
	playScenes(t, false, []scene{
		{"lower leads, upper is in its way and needs a floor below: it gives way to the refuge", deckOf(phased{0, 0, 0, 'g'}, phased{800, 0, 0, 'g'}, spansOf(0, 0, 2, 2)),
			[]impl.Person{person(1, 'w', 2, 0, 0, 0), person(2, 'w', 1, 2, 0, 1)},
			[]string{"10 10 0g, 810 10 0g, 0:1 2:3; ww", "30 20 0g, 830 20 0g, 0:1 2:3; ww"}},
		{"upper leads, lower is in its way and needs a floor above: it gives way to the refuge", deckOf(phased{0, 0, 0, 'g'}, phased{800, 0, 0, 'g'}, spansOf(0, 0, 2, 2)),
			[]impl.Person{person(1, 'w', 0, 2, 0, 1), person(2, 'w', 1, 0, 0, 0)},
			[]string{"-10 -10 0g, 790 -10 0g, -1:0 1:2; ww", "-30 -20 0g, 770 -20 0g, -1:0 1:2; ww"}},
		{"the same needs, the other is the older: lower leads, and upper waits above it", deckOf(phased{0, 0, 0, 'g'}, phased{800, 0, 0, 'g'}, spansOf(0, 0, 2, 2)),
			[]impl.Person{person(1, 'w', 1, 0, 0, 0), person(2, 'w', 0, 2, 0, 1)},
			[]string{"10 10 0g, 800 0 0g, 0:1 2:2; ww"}},
		{"lower leads, upper has no need and is in its way", deckOf(phased{0, 0, 0, 'g'}, phased{400, 0, 0, 'g'}, spansOf(0, 0, 1, 1)),
			[]impl.Person{person(1, 'w', 1, 0, 0, 0)},
			[]string{"0 0 0g, 410 10 0g, 0:0 1:2; w", "0 0 0g, 430 20 0g, 0:0 1:2; w"}},
		{"upper leads, lower has no need and is in its way", deckOf(phased{400, 0, 0, 'g'}, phased{800, 0, 0, 'g'}, spansOf(1, 1, 2, 2)),
			[]impl.Person{person(1, 'w', 1, 0, 0, 1)},
			[]string{"390 -10 0g, 800 0 0g, 0:1 2:2; w", "370 -20 0g, 800 0 0g, 0:1 2:2; w"}},
		{"lower leads, upper has no need and is not in its way: it stays", deckOf(phased{0, 0, 0, 'g'}, phased{800, 0, 0, 'g'}, spansOf(0, 0, 2, 2)),
			[]impl.Person{person(1, 'w', 1, 0, 0, 0)},
			[]string{"10 10 0g, 800 0 0g, 0:1 2:2; w"}},
		{"lower leads, upper needs a floor on its side: both go", deckOf(phased{0, 0, 0, 'g'}, phased{800, 0, 0, 'g'}, spansOf(0, 0, 2, 2)),
			[]impl.Person{person(1, 'r', 1, 0, 0, 0), person(2, 'w', 1, 2, 0, 1)},
			[]string{"0 0 1o, 790 -10 0g, 0:0 1:2; rw"}},
		{"upper leads, lower needs a floor on its side: both go", deckOf(phased{0, 0, 0, 'g'}, phased{800, 0, 0, 'g'}, spansOf(0, 0, 2, 2)),
			[]impl.Person{person(1, 'r', 1, 2, 0, 1), person(2, 'w', 1, 2, 0, 0)},
			[]string{"10 10 0g, 800 0 1o, 0:1 2:2; rw"}},
		{"upper leads over two floors: it keeps those that it may come to", deckOf(phased{0, 0, 0, 'g'}, phased{1100, 0, 0, 'g'}, spansOf(0, 0, 3, 3)),
			[]impl.Person{person(1, 'w', 1, 0, 0, 1), person(2, 'w', 0, 2, 0, 0)},
			[]string{"0 0 1o, 1090 -10 0g, 0:0 2:3; ww"}},
		{"upper leads to a floor that lower has: it goes as near as it may", deckOf(phased{400, 0, 0, 'g'}, phased{1100, 0, 0, 'g'}, spansOf(1, 1, 3, 3)),
			[]impl.Person{person(1, 'w', 1, 0, 0, 1)},
			[]string{"390 -10 0g, 1090 -10 0g, 0:1 2:3; w"}},
		{"a door that shuts keeps the other waiting", deckOf(phased{0, 0, 0, 'g'}, phased{400, 0, 2, 's'}, spansOf(0, 0, 1, 1)),
			[]impl.Person{person(1, 'r', 0, 1, 0, 0)},
			[]string{"0 0 0g, 400 0 1s, 0:0 1:1; r", "0 0 0g, 400 0 0g, 0:0 1:1; r", "0 0 0g, 410 10 0g, 0:0 1:2; r"}},
		{"spans that are elsewhere hold the cars to them", deckOf(phased{0, 0, 0, 'g'}, phased{1100, 0, 0, 'g'}, spansOf(2, 2, 3, 3)),
			[]impl.Person{person(1, 'w', 0, 1, 0, 0)},
			[]string{"0 0 1o, 1100 0 0g, 0:0 3:3; w"}},
	})
}

func TestTicksInRecall(t *testing.T) {
	lower, upper := []impl.Person{person(1, 'r', 2, 0, 0, 0)}, []impl.Person{person(1, 'r', 2, 0, 0, 1)}
	playScenes(t, true, []scene{
		{"one rides past floor 1: it turns back", deckOf(phased{0, 0, 0, 'g'}, phased{500, 50, 0, 'g'}, spansOf(0, 0, 1, 2)), upper, []string{
			"0 0 0g, 540 40 0g, 0:0 1:2; r", "0 0 0g, 570 30 0g, 0:0 1:2; r", "0 0 0g, 590 20 0g, 0:0 1:2; r", "0 0 0g, 600 10 0g, 0:0 1:2; r", "0 0 0g, 600 0 0g, 0:0 1:2; r", "0 0 0g, 590 -10 0g, 0:0 1:2; r",
		}},
		{"one rides nearer to floor 2: it goes on", deckOf(phased{0, 0, 0, 'g'}, phased{601, 50, 0, 'g'}, spansOf(0, 0, 1, 2)), upper, []string{"0 0 0g, 651 50 0g, 0:0 1:2; r"}},
		{"one stands at a floor: it opens there", deckOf(phased{400, 0, 0, 'g'}, phased{800, 0, 0, 'g'}, spansOf(1, 1, 2, 2)), lower, []string{
			"400 0 1o, 800 0 0g, 1:1 2:2; r", "400 0 2s, 800 0 0g, 1:1 2:2; o", "400 0 1s, 800 0 0g, 1:1 2:2; o", "400 0 0g, 800 0 0g, 1:1 2:2; o", "400 0 0g, 800 0 0g, 1:1 2:2; o",
		}},
		{"in the refuge below: it goes to floor 0", deckOf(phased{-300, 0, 0, 'g'}, phased{800, 0, 0, 'g'}, spansOf(-1, -1, 2, 2)), lower, []string{"-290 10 0g, 800 0 0g, -1:0 2:2; r"}},
		{"in the refuge above: it goes to floor 2", deckOf(phased{0, 0, 0, 'g'}, phased{1100, 0, 0, 'g'}, spansOf(0, 0, 3, 3)), upper, []string{"0 0 0g, 1090 -10 0g, 0:0 2:3; r"}},
		{"people wait, and nobody rides", deckOf(phased{0, 0, 0, 'g'}, phased{700, 20, 0, 'g'}, spansOf(0, 0, 1, 3)), []impl.Person{person(1, 'w', 0, 1, 0, 0), person(2, 'w', 2, 1, 0, 1)}, []string{
			"0 0 0g, 710 10 0g, 0:0 1:2; ww", "0 0 0g, 710 0 0g, 0:0 1:2; ww", "0 0 0g, 710 0 0g, 0:0 1:2; ww",
		}},
		{"all are let out, none gets in", deckOf(phased{0, 0, 1, 'o'}, phased{800, 0, 1, 'o'}, spansOf(0, 0, 2, 2)), []impl.Person{
			person(1, 'r', 2, 0, 0, 0), person(2, 'r', 0, 1, 0, 0), person(3, 'w', 0, 1, 0, 0), person(4, 'r', 0, 2, 0, 1), person(5, 'w', 2, 0, 0, 1),
		}, []string{"0 0 2s, 800 0 2s, 0:0 2:2; oowow"}},
		{"both nearest to one floor: the older has it, the other goes on", deckOf(phased{380, 0, 0, 'g'}, phased{500, 0, 0, 'g'}, spansOf(1, 1, 2, 2)), []impl.Person{
			person(1, 'r', 2, 0, 0, 1), person(2, 'r', 0, 2, 0, 0),
		}, []string{"370 -10 0g, 510 10 0g, 0:1 2:2; rr"}},
		{"a door that shuts: it opens once more", deckOf(phased{400, 0, 1, 's'}, phased{800, 0, 0, 'g'}, spansOf(1, 1, 2, 2)), lower, []string{
			"400 0 0g, 800 0 0g, 1:1 2:2; r", "400 0 1o, 800 0 0g, 1:1 2:2; r", "400 0 2s, 800 0 0g, 1:1 2:2; o",
		}},
		{"held, and both stand", heldDeck(deckOf(phased{400, 0, 0, 'g'}, phased{800, 0, 0, 'g'}, spansOf(-1, 1, 2, 3))), lower, []string{"400 0 1o, 800 0 0g, 1:1 2:2; r"}},
	})
	g := recalled(withDecks(freshGroup(exampleHouse(), 1, person(1, 'r', 2, 0, 0, 0), person(2, 'r', 2, 1, 0, 0)), deckOf(phased{400, 0, 1, 'o'}, phased{800, 0, 0, 'g'}, spansOf(1, 1, 2, 2))))
	for i, p := range ticked(t, g).Ledger.People {
		if p.State != impl.StateOut || p.At != 1 {
			t.Errorf("let out at floor 1: person %d is %+v", i+1, p)
		}
	}
}

func TestTicksOfSeveralShafts(t *testing.T) {
	h := exampleHouse()
	moves := deckOf(phased{100, 20, 0, 'g'}, phased{800, 0, 0, 'g'}, spansOf(0, 1, 2, 3))
	g := withDecks(freshGroup(h, 1, person(1, 'w', 0, 2, 2, 0), person(2, 'w', 1, 2, 0, 0), person(3, 'w', 2, 1, 1, 1)), heldDeck(moves), freshDeck(h), freshDeck(h))
	rows := [][3]string{
		{"110 10 0g, 800 0 0g, 0:1 2:3 held; www", "0 0 0g, 800 0 1o, 0:0 2:2; www", "0 0 1o, 800 0 0g, 0:0 2:2; www"},
		{"110 0 0g, 800 0 0g, 0:1 2:3 held; rwr", "0 0 0g, 800 0 2s, 0:0 2:2; rwr", "0 0 2s, 800 0 0g, 0:0 2:2; rwr"},
		{"120 10 0g, 800 0 0g, 0:1 2:2; rwr", "0 0 0g, 800 0 1s, 0:0 2:2; rwr", "0 0 1s, 810 10 0g, 0:0 2:3; rwr"},
		{"140 20 0g, 800 0 0g, 0:1 2:2; rwr", "0 0 0g, 800 0 0g, 0:0 2:2; rwr", "0 0 0g, 830 20 0g, 0:0 2:3; rwr"},
	}
	for i, row := range rows {
		g = ticked(t, g)
		for shaft, want := range row {
			if got := deckText(g.Decks[shaft], g.Ledger); got != want {
				t.Errorf("tick %d, shaft %d: %s, not %s", i+1, shaft, got, want)
			}
		}
	}
	// What a shaft does hangs on no other: held, led or left alone.
	d := &dice{state: 3}
	for range 200 {
		all := d.group(driftHouse(), 12)
		all.Tick = 5
		next := impl.TickGroup(all, 1, -3).Group
		for shaft := range all.Decks {
			alone := withDecks(ownGroup(all), all.Decks[shaft])
			alone.Ledger.People = nil
			for _, p := range all.Ledger.People {
				if p.Shaft == int64(shaft) {
					p.Shaft = 0
					alone.Ledger.People = append(alone.Ledger.People, p)
				}
			}
			if got := impl.TickGroup(alone, 1, -3).Group.Decks[0]; got != next.Decks[shaft] {
				t.Fatalf("shaft %d of %+v alone is %+v, not %+v", shaft, all, got, next.Decks[shaft])
			}
		}
	}
}

func TestTicksWithDrift(t *testing.T) {
	h := driftHouse() // Drift 4
	g := withDecks(freshGroup(h, 1, person(1, 'r', 0, 1, 0, 0), person(2, 'r', 0, 2, 0, 1)), deckOf(phased{0, 0, 0, 'g'}, phased{500, 0, 0, 'g'}, spansOf(0, 0, 1, 1)))
	for _, driftL := range []int64{least, -5, -4, -1, 0, 3, 4, 5, greatest} {
		for _, driftU := range []int64{least, -5, -4, 0, 2, 4, 5, greatest} {
			got := impl.TickGroup(g, driftL, driftU)
			if driftL < -4 || driftL > 4 || driftU < -4 || driftU > 4 {
				wantGrouped(t, fmt.Sprint("TickGroup by ", driftL, ", ", driftU), g, got, impl.GroupResult{Code: impl.ErrRange})
				atEnd := withTick(g, big1)
				wantGrouped(t, "drift ahead of Tick", atEnd, impl.TickGroup(atEnd, driftL, driftU), impl.GroupResult{Code: impl.ErrRange})
				continue
			}
			// The lower car has floor 0 alone, and brakes: who brakes does not drift.
			want := deckOf(phased{0, 0, 0, 'g'}, phased{510 + driftU, 10 + driftU, 0, 'g'}, spansOf(0, 0, 1, 2))
			if got.Code != impl.OK || got.Group.Decks[0] != want {
				t.Errorf("by %d, %d: %+v", driftL, driftU, got)
			}
		}
	}
	alone := withDecks(g, deckOf(phased{0, 0, 0, 'g'}, phased{1100, 0, 0, 'g'}, spansOf(0, 0, 3, 3)))
	alone.Ledger = people(person(1, 'r', 0, 1, 0, 0))
	for drift := int64(-4); drift <= 4; drift++ {
		if s := impl.TickGroup(alone, drift, 0).Group.Decks[0].Shaft; s.Lower != (impl.Car{Pos: 10 + drift, Vel: 10 + drift}) || s.Upper != standing(1100) {
			t.Errorf("by %d: %+v", drift, s)
		}
	}
	two := withDecks(freshGroup(h, 1), alone.Decks[0], g.Decks[0])
	two.Ledger = people(person(1, 'r', 0, 1, 0, 0), person(2, 'r', 0, 2, 1, 1))
	if s := impl.TickGroup(two, 3, -2).Group; s.Decks[0].Shaft.Lower.Pos != 13 || s.Decks[1].Shaft.Upper.Pos != 508 {
		t.Errorf("the drifts are those of all shafts: %+v", s.Decks)
	}
	for _, drift := range []int64{-1, 1} {
		still := freshGroup(exampleHouse(), 1)
		wantGrouped(t, "no drift at all", still, impl.TickGroup(still, drift, 0), impl.GroupResult{Code: impl.ErrRange})
		wantGrouped(t, "no drift at all", still, impl.TickGroup(still, 0, drift), impl.GroupResult{Code: impl.ErrRange})
	}
}

func TestTicksAtTheEndOfTime(t *testing.T) {
	h := exampleHouse()
	for _, tick := range []int64{0, 1, 76, big1 - 2, big1 - 1} {
		g := withTick(freshGroup(h, 2, person(1, 'w', 1, 2, 1, 0)), tick)
		if got := impl.TickGroup(g, 0, 0); got.Code != impl.OK || got.Group.Tick != tick+1 {
			t.Errorf("Tick %d becomes %+v", tick, got)
		}
	}
	for _, g := range []impl.Group{freshGroup(h, 1), freshGroup(h, 2, person(1, 'w', 1, 2, 1, 0)), recalled(freshGroup(h, 3))} {
		g.Tick = big1
		wantGrouped(t, "TickGroup at MaxBig", g, impl.TickGroup(g, 0, 0), impl.GroupResult{Code: impl.ErrMany})
	}
}

func TestRestartByHand(t *testing.T) {
	list := []impl.Person{person(1, 'w', 0, 2, 0, 0), person(2, 'r', 0, 2, 0, 0), person(3, 't', 0, 2, 1, 0), person(4, 'w', 1, 2, 1, 1), person(6, 'o', 0, 2, 1, 0), person(7, 'g', 0, 2, 0, 1)}
	decks := []impl.Deck{
		deckOf(phased{0, 0, 2, 'o'}, phased{800, 0, 1, 's'}, spansOf(0, 0, 2, 2)),
		deckOf(phased{100, 30, 0, 'g'}, phased{800, 0, 0, 'o'}, spansOf(0, 1, 2, 3)),
		heldDeck(deckOf(phased{0, 0, 0, 's'}, phased{800, 0, 1, 'o'}, spansOf(0, 0, 2, 2))),
	}
	wants := []impl.Deck{
		heldDeck(deckOf(phased{0, 0, 2, 's'}, phased{800, 0, 1, 's'}, spansOf(0, 0, 2, 2))),
		heldDeck(deckOf(phased{100, 30, 0, 'g'}, phased{800, 0, 0, 'g'}, spansOf(0, 1, 2, 3))),
		heldDeck(deckOf(phased{0, 0, 0, 'g'}, phased{800, 0, 1, 's'}, spansOf(0, 0, 2, 2))),
	}
	for _, inRecall := range []bool{false, true} {
		g := withTick(withDecks(freshGroup(exampleHouse(), 1, list...), decks...), 9)
		g.Recall = inRecall
		want := impl.GroupResult{Group: withDecks(ownGroup(g), wants...)}
		wantGrouped(t, "a restart that keeps", g, impl.RestartGroup(g, true), want)
		wantGrouped(t, "and again", g, impl.RestartGroup(impl.RestartGroup(g, true).Group, true), want)
		want.Group.Ledger.People[0].State, want.Group.Ledger.People[3].State = impl.StateGone, impl.StateGone
		wantGrouped(t, "a restart that keeps nobody", g, impl.RestartGroup(g, false), want)
		g.Ledger, want.Group.Ledger = impl.Ledger{Next: 3}, impl.Ledger{Next: 3}
		wantGrouped(t, "a restart of nobody", g, impl.RestartGroup(g, false), want)
		wantGrouped(t, "a restart of nobody that keeps", g, impl.RestartGroup(g, true), want)
	}
}

// Each door from shut to open with each phase that it may have.
func TestRestartOfEveryDoor(t *testing.T) {
	h := wideHouse()
	for door := range h.Door + 1 {
		for phase := range int64(3) {
			for _, isUpper := range []bool{false, true} {
				d := freshDeck(h)
				if isUpper {
					d.Shaft.Upper.Door, d.PhaseU = door, phase
				} else {
					d.Shaft.Lower.Door, d.PhaseL = door, phase
				}
				if door > 0 && phase == 0 {
					continue
				}
				got := impl.RestartGroup(withDecks(freshGroup(h, 1), d), true).Group.Decks[0]
				want := [2]int64{}
				if door > 0 && isUpper {
					want[1] = impl.PhaseShut
				} else if door > 0 {
					want[0] = impl.PhaseShut
				}
				if [2]int64{got.PhaseL, got.PhaseU} != want || !got.Held || got.Shaft != d.Shaft || got.Spans != d.Spans {
					t.Errorf("%+v becomes %+v", d, got)
				}
			}
		}
	}
}

func TestRecallByHand(t *testing.T) {
	list := []impl.Person{person(1, 'w', 0, 2, 0, 0), person(2, 'r', 0, 2, 0, 0), person(3, 't', 0, 2, 1, 0), person(4, 'w', 1, 2, 1, 1), person(6, 'o', 0, 2, 1, 0), person(7, 'g', 0, 2, 0, 1)}
	deck := deckOf(phased{0, 0, 1, 'o'}, phased{700, 30, 0, 'g'}, spansOf(0, 0, 1, 2))
	g := withTick(withDecks(freshGroup(exampleHouse(), 1, list...), deck, heldDeck(deck)), 9)
	gone := ownGroup(g)
	gone.Ledger.People[0].State, gone.Ledger.People[3].State = impl.StateGone, impl.StateGone
	rows := []struct {
		name   string
		g      impl.Group
		recall bool
		want   impl.Group
	}{
		{"into Recall", g, true, recalled(gone)},
		{"into Recall, again", recalled(g), true, recalled(gone)},
		{"out of Recall", recalled(g), false, g},
		{"out of Recall, again", g, false, g},
		{"into Recall with nobody", freshGroup(exampleHouse(), 1), true, recalled(freshGroup(exampleHouse(), 1))},
		{"out of Recall with nobody", recalled(freshGroup(exampleHouse(), 1)), false, freshGroup(exampleHouse(), 1)},
	}
	for _, r := range rows {
		wantGrouped(t, r.name, r.g, impl.RecallGroup(r.g, r.recall), impl.GroupResult{Group: r.want})
	}
}

func TestQuietByHand(t *testing.T) {
	h := exampleHouse()
	open := func(lower, upper phased) impl.Group {
		return withDecks(freshGroup(h, 1), freshDeck(h), deckOf(lower, upper, spansOf(0, 0, 2, 2)))
	}
	rows := []struct {
		name string
		g    impl.Group
		want bool
	}{
		{"nobody", freshGroup(h, 1), true},
		{"nobody in three shafts", freshGroup(h, 3), true},
		{"some who are done", freshGroup(h, 1, person(1, 't', 0, 2, 0, 0), person(2, 'o', 0, 2, 0, 0), person(3, 'g', 0, 2, 0, 0)), true},
		{"in Recall", recalled(freshGroup(h, 1)), true},
		{"one waits", freshGroup(h, 1, person(1, 't', 0, 2, 0, 0), person(2, 'w', 0, 2, 0, 0)), false},
		{"one rides", freshGroup(h, 1, person(1, 'r', 0, 2, 0, 1), person(2, 't', 0, 2, 0, 0)), false},
		{"one waits in Recall", recalled(freshGroup(h, 1, person(1, 'w', 0, 2, 0, 0))), false},
		{"the lower door is half open", open(phased{0, 0, 1, 's'}, phased{800, 0, 0, 'g'}), false},
		{"the upper door is half open", open(phased{0, 0, 0, 'g'}, phased{800, 0, 1, 'o'}), false},
		{"the upper door is open", open(phased{0, 0, 0, 'g'}, phased{800, 0, 2, 's'}), false},
		{"doors that are shut, though they are to open or to shut", open(phased{0, 0, 0, 'o'}, phased{800, 0, 0, 's'}), true},
		{"cars that move", open(phased{100, 20, 0, 'g'}, phased{800, 20, 0, 'g'}), true},
		{"held", withDecks(freshGroup(h, 1), heldDeck(freshDeck(h))), true},
		{"at the end of time", withTick(freshGroup(h, 1), big1), true},
		{"Tick beyond it", withTick(freshGroup(h, 1), big1+1), false},
		{"no decks", freshGroup(h, 0), false},
		{"a house too near", freshGroup(nearHouse(), 1), false},
		{"a house out of its bounds", freshGroup(outHouse(), 1), false},
		{"a deck with a fault", withDecks(freshGroup(h, 1), turnedDeck(deckFaults()[6].turn)), false},
		{"no ledger", impl.Group{House: h, Decks: []impl.Deck{freshDeck(h)}}, false},
		{"nothing", impl.Group{}, false},
	}
	for _, r := range rows {
		if got := impl.QuietGroup(r.g); got != r.want {
			t.Errorf("%s: QuietGroup is %t", r.name, got)
		}
	}
}

func TestSettleByHand(t *testing.T) {
	h := exampleHouse()
	ride := freshGroup(h, 1, person(1, 'w', 0, 2, 0, 0)) // is quiet in 29 ticks, as its story tells
	last := withDecks(freshGroup(h, 1, person(1, 'r', 0, 1, 0, 0)), deckOf(phased{400, 0, 1, 'o'}, phased{800, 0, 0, 'g'}, spansOf(1, 1, 2, 2)))
	stuck := recalled(freshGroup(h, 1, person(1, 'w', 0, 2, 0, 0))) // nobody is fetched any more
	rows := []struct {
		name            string
		g               impl.Group
		ticks, code, id int64
	}{
		{"quiet at once, no ticks", freshGroup(h, 2), 0, impl.OK, 0},
		{"quiet at once", freshGroup(h, 2), 20000, impl.OK, 0},
		{"no ticks", ride, 0, impl.OK, 0},
		{"one tick", ride, 1, impl.OK, 1},
		{"28 ticks", ride, 28, impl.OK, 28},
		{"29 ticks", ride, 29, impl.OK, 29},
		{"30 ticks", ride, 30, impl.OK, 29},
		{"20000 ticks", ride, 20000, impl.OK, 29},
		{"-1 tick", ride, -1, impl.ErrRange, 0},
		{"20001 ticks", ride, 20001, impl.ErrRange, 0},
		{"the least", freshGroup(h, 1), least, impl.ErrRange, 0},
		{"the greatest", freshGroup(h, 1), greatest, impl.ErrRange, 0},
		{"one gets out", last, 20000, impl.OK, 3},
		{"it is never quiet", stuck, 20000, impl.OK, 20000},
		{"the end of time, no ticks", withTick(ride, big1), 0, impl.OK, 0},
		{"the end of time, one tick", withTick(ride, big1), 1, impl.ErrMany, 0},
		{"the end of time, quiet", withTick(freshGroup(h, 1), big1), 20000, impl.OK, 0},
		{"quiet at the end of time", withTick(ride, big1-29), 20000, impl.OK, 29},
		{"the end of time a tick too early", withTick(ride, big1-28), 20000, impl.ErrMany, 0},
		{"the end of time, but not so far", withTick(ride, big1-28), 28, impl.OK, 28},
		{"ticks beyond ahead of the end of time", withTick(ride, big1), 20001, impl.ErrRange, 0},
		{"never quiet till the end of time", withTick(stuck, big1-100), 101, impl.ErrMany, 0},
	}
	for _, r := range rows {
		want := impl.GroupResult{Code: r.code, Id: r.id}
		if r.code == impl.OK {
			want.Group = r.g
			for range r.id {
				want.Group = impl.TickGroup(want.Group, 0, 0).Group
			}
		}
		wantGrouped(t, r.name, r.g, impl.SettleGroup(r.g, r.ticks), want)
	}
}

func TestBoundByHand(t *testing.T) {
	h := exampleHouse() // RunBound is 65, ServeBound 4 times that, 8 and 20
	rows := []struct {
		name string
		list []impl.Person
		want int64
	}{
		{"nobody", nil, 2 * 288},
		{"some who are done", []impl.Person{person(1, 't', 0, 2, 0, 0), person(2, 'o', 0, 2, 0, 0), person(3, 'g', 0, 2, 0, 0)}, 2 * 288},
		{"one waits", []impl.Person{person(1, 'w', 0, 2, 0, 0)}, 4 * 288},
		{"one rides", []impl.Person{person(1, 'r', 0, 2, 1, 1)}, 4 * 288},
		{"two wait, one rides", []impl.Person{person(1, 'w', 0, 2, 1, 1), person(2, 't', 0, 2, 0, 0), person(3, 'r', 0, 2, 0, 0), person(4, 'w', 0, 2, 0, 0)}, 8 * 288},
	}
	for _, r := range rows {
		wantInt(t, r.name, impl.BoundOf(freshGroup(h, 2, r.list...)), r.want)
		wantInt(t, r.name+", in Recall", impl.BoundOf(recalled(freshGroup(h, 2, r.list...))), r.want)
	}
	wantInt(t, "60 people", impl.BoundOf(packedGroup()), 122*impl.ServeBound(greatestHouse()).Value)
	for _, house := range []impl.House{nearHouse(), outHouse(), {}} {
		serve := impl.ServeBound(house)
		if got := impl.BoundOf(freshGroup(house, 1)); serve.Code == impl.OK || got != (impl.IntResult{Code: serve.Code}) {
			t.Errorf("%+v: ServeBound is %+v, BoundOf %+v", house, serve, got)
		}
	}
}

// refusesGroup holds all functions against one code, with all else zero, and
// whatever else they are given.
func refusesGroup(t *testing.T, name string, g impl.Group, code int64) {
	t.Helper()
	wantGroupFault(t, name, g, code)
	for _, n := range []int64{least, -1, 0, 1, 2, 3, big1, greatest} {
		for _, m := range []int64{0, 1, greatest} {
			wantWhere(t, name+": AssignCall", g, impl.AssignCall(g, n, m), impl.WhereResult{Code: code})
			wantGrouped(t, name+": CallLift", g, impl.CallLift(g, n, m), impl.GroupResult{Code: code})
			wantGrouped(t, name+": TickGroup", g, impl.TickGroup(g, n, m), impl.GroupResult{Code: code})
			if got := impl.NeedIn(g, n, m); got != (impl.NeedResult{Code: code}) {
				t.Errorf("%s: NeedIn is %+v", name, got)
			}
		}
		wantWhere(t, name+": LeadOf", g, impl.LeadOf(g, n), impl.WhereResult{Code: code})
		wantGrouped(t, name+": SettleGroup", g, impl.SettleGroup(g, n), impl.GroupResult{Code: code})
	}
	for _, yes := range []bool{false, true} {
		wantGrouped(t, name+": RestartGroup", g, impl.RestartGroup(g, yes), impl.GroupResult{Code: code})
		wantGrouped(t, name+": RecallGroup", g, impl.RecallGroup(g, yes), impl.GroupResult{Code: code})
	}
	if got := impl.BoundOf(g); got != (impl.IntResult{Code: code}) || impl.QuietGroup(g) {
		t.Errorf("%s: BoundOf is %+v, QuietGroup %t", name, got, impl.QuietGroup(g))
	}
}

func TestGroupsWithFaultsAreRefused(t *testing.T) {
	h := exampleHouse()
	rows := []struct {
		name string
		g    impl.Group
		code int64
	}{
		{"a house too near", freshGroup(nearHouse(), 1), impl.ErrForm},
		{"a house out of its bounds", freshGroup(outHouse(), 1), impl.ErrRange},
		{"nothing", impl.Group{}, impl.ErrRange},
		{"no decks", freshGroup(h, 0), impl.ErrMany},
		{"four decks", freshGroup(h, 4), impl.ErrMany},
		{"no ledger", impl.Group{House: h, Decks: []impl.Deck{freshDeck(h)}}, impl.ErrRange},
		{"too many people", freshGroup(h, 1, crowd(61, 1, someone(0))...), impl.ErrMany},
		{"too many wait", freshGroup(h, 1, crowd(5, 1, person(0, 'w', 1, 2, 0, 0))...), impl.ErrMany},
		{"from a floor to itself", freshGroup(h, 1, person(1, 'w', 1, 1, 0, 0)), impl.ErrForm},
		{"a person of no deck", freshGroup(h, 2, person(1, 'w', 1, 2, 2, 0)), impl.ErrForm},
		{"Tick -1", withTick(freshGroup(h, 1), -1), impl.ErrRange},
		{"Tick above MaxBig", withTick(freshGroup(h, 1), big1+1), impl.ErrRange},
	}
	for _, f := range deckFaults() {
		g := withDecks(freshGroup(h, 1, person(1, 'w', 1, 2, 0, 0)), freshDeck(h), turnedDeck(f.turn))
		refusesGroup(t, f.name, g, f.code)
		refusesGroup(t, f.name+", in Recall", recalled(g), f.code)
	}
	for _, r := range rows {
		refusesGroup(t, r.name, r.g, r.code)
		refusesGroup(t, r.name+", in Recall", recalled(r.g), r.code)
	}
}

type groupCall struct {
	name string
	call func(impl.Group) impl.GroupResult
}

func groupCalls() []groupCall {
	return []groupCall{
		{"CallLift", func(g impl.Group) impl.GroupResult { return impl.CallLift(g, 1, 0) }},
		{"TickGroup", func(g impl.Group) impl.GroupResult { return impl.TickGroup(g, 0, 0) }},
		{"RestartGroup that keeps", func(g impl.Group) impl.GroupResult { return impl.RestartGroup(g, true) }},
		{"RestartGroup", func(g impl.Group) impl.GroupResult { return impl.RestartGroup(g, false) }},
		{"RecallGroup", func(g impl.Group) impl.GroupResult { return impl.RecallGroup(g, true) }},
		{"RecallGroup out of it", func(g impl.Group) impl.GroupResult { return impl.RecallGroup(g, false) }},
		{"SettleGroup at once", func(g impl.Group) impl.GroupResult { return impl.SettleGroup(g, 0) }},
		{"SettleGroup", func(g impl.Group) impl.GroupResult { return impl.SettleGroup(g, 90) }},
	}
}

// roomy is a list of its own with room behind it, which an append would fill.
func roomy[T any](list []T) []T {
	room := make([]T, len(list), len(list)+4)
	copy(room, list)
	return room
}

// groupsForMemory are at rest and on their way, with nobody, few and 60 people.
func groupsForMemory() []impl.Group {
	h := greatestHouse()
	opens := freshDeck(h)
	opens.Shaft.Lower.Door, opens.PhaseL = h.Door-1, impl.PhaseOpen
	groups := []impl.Group{freshGroup(h, 3), freshGroup(h, 3), freshGroup(h, 1), freshGroup(h, 3)}
	for i, l := range ledgersForMemory() {
		groups[i].Ledger = l
		groups[i].Decks[0] = opens
	}
	groups[2].Decks = slices.Repeat(groups[2].Decks, 3)
	for i := range groups {
		groups[i].Decks = roomy(groups[i].Decks)
	}
	return groups
}

// spoilGroup writes over all lists of a group, the room behind them as well.
func spoilGroup(g impl.Group) {
	spoil(g.Ledger.People)
	decks := g.Decks[:cap(g.Decks)]
	for i := range decks {
		decks[i] = impl.Deck{PhaseL: -7, Held: true}
	}
}

// roomOf is a group with all the room behind its lists.
func roomOf(g impl.Group) impl.Group {
	g.Decks = g.Decks[:cap(g.Decks)]
	g.Ledger.People = g.Ledger.People[:cap(g.Ledger.People)]
	return g
}

func TestGroupsShareNoMemory(t *testing.T) {
	for _, f := range groupCalls() {
		for i, g := range groupsForMemory() {
			wantGroupFault(t, "for memory", g, impl.OK)
			all := roomOf(g)
			before := ownGroup(all)
			first, second := f.call(g), f.call(g)
			kept := ownGroup(second.Group)
			if first.Code != impl.OK || !sameGroups(all, before) {
				t.Errorf("%s of group %d changes its argument, or tells %d", f.name, i, first.Code)
			}
			spoilGroup(first.Group)
			if !sameGroups(all, before) || !sameGroups(second.Group, kept) {
				t.Errorf("%s of group %d: its answer is its argument's memory, or another answer's", f.name, i)
			}
			spoilGroup(all)
			if !sameGroups(second.Group, kept) {
				t.Errorf("%s of group %d: its answer shares memory: %+v", f.name, i, second)
			}
		}
	}
	for shafts := range int64(3) {
		first, second := impl.NewGroup(exampleHouse(), shafts+1), impl.NewGroup(exampleHouse(), shafts+1)
		spoilGroup(first.Group)
		wantGrouped(t, "NewGroup, again", impl.Group{}, second, impl.GroupResult{Group: freshGroup(exampleHouse(), int(shafts)+1)})
	}
}

// askedAll are all that is asked of a group, but for what tells one.
func askedAll(g impl.Group) string {
	return fmt.Sprint(impl.GroupFault(g), impl.AssignCall(g, 0, 1), impl.NeedIn(g, 0, 0), impl.LeadOf(g, 0), impl.QuietGroup(g), impl.BoundOf(g))
}

func TestNoPeopleAndNoDecks(t *testing.T) {
	for _, h := range append(groupHouses(), nearHouse(), outHouse()) {
		for _, shafts := range []int{0, 1, 3} {
			none, empty := freshGroup(h, shafts), freshGroup(h, shafts)
			empty.Ledger.People = fullLedger().People[:0]
			if shafts == 0 {
				empty.Decks = freshGroup(h, 2).Decks[:0]
			}
			for _, f := range groupCalls() {
				if a, b := f.call(none), f.call(empty); !sameGrouped(a, b) {
					t.Errorf("%s of nil is %+v, of an empty list %+v", f.name, a, b)
				}
			}
			if a, b := askedAll(none), askedAll(empty); a != b {
				t.Errorf("nil answers %s, an empty list %s", a, b)
			}
		}
	}
}

// holdsDoors holds of one tick that who boards or alights does so at a car that
// stands there with its door open, and that nothing else happens to anybody.
func holdsDoors(t *testing.T, old, now impl.Group) {
	t.Helper()
	holdsPassing(t, passing{"TickGroup", []string{"wr", "rt", "ro"}}, old.Ledger, now.Ledger, func(impl.Person) bool { return false })
	for i, p := range now.Ledger.People {
		was := old.Ledger.People[i]
		if p == was {
			continue
		}
		c, floor := carAt(now.Decks[p.Shaft], p.Car), p.At
		if p.State == impl.StateRides {
			floor = p.From
		}
		if !impl.StandsAt(now.House, c, floor) || c.Door != now.House.Door || old.Recall != (p.State == impl.StateOut) {
			t.Fatalf("%+v becomes %+v at %+v in Recall %t", was, p, c, old.Recall)
		}
	}
}

// living is a group that came of a new one by calls, ticks, restarts and recalls.
type living struct {
	impl.Group
	dice   dice
	drifts bool
}

func (g *living) tick(t *testing.T) {
	t.Helper()
	driftL, driftU := int64(0), int64(0)
	if g.drifts {
		d := g.House.Drift
		driftL, driftU = g.dice.upTo(-d, d), g.dice.upTo(-d, d)
	}
	r := impl.TickGroup(g.Group, driftL, driftU)
	wantGrouped(t, "TickGroup", g.Group, r, plainTicked(g.Group, driftL, driftU))
	holdsDoors(t, g.Group, r.Group)
	g.Group = r.Group
}

func (g *living) called(t *testing.T) {
	t.Helper()
	from := g.dice.upTo(0, g.House.Floors-1)
	to := (from + g.dice.upTo(1, g.House.Floors-1)) % g.House.Floors
	r := impl.CallLift(g.Group, from, to)
	wantGrouped(t, "CallLift", g.Group, r, plainCalled(g.Group, from, to))
	if r.Code == impl.OK {
		g.Group = r.Group
	} else if r.Code != impl.ErrBusy && r.Code != impl.ErrDown {
		t.Fatalf("CallLift of %+v is %+v", g.Group, r)
	}
}

// restarted holds that both cars of each shaft stand in the ticks that it takes
// them to brake, however they drift.
func (g *living) restarted(t *testing.T, keep bool) {
	t.Helper()
	r := impl.RestartGroup(g.Group, keep)
	wantGrouped(t, "RestartGroup", g.Group, r, plainRestarted(g.Group, keep))
	g.Group = r.Group
	longest, halts := int64(0), []int64{}
	for _, d := range g.Decks {
		halt := impl.HaltShaft(g.House, d.Shaft).Value
		longest, halts = max(longest, halt), append(halts, halt)
	}
	for gone := range longest + 1 {
		for i, d := range g.Decks {
			if isStill := d.Shaft.Lower.Vel == 0 && d.Shaft.Upper.Vel == 0; gone == halts[i] && !isStill || gone < halts[i] && !d.Held {
				t.Fatalf("%d ticks behind a restart, of %d: %+v", gone, halts[i], d)
			}
		}
		if gone < longest {
			g.tick(t)
		}
	}
}

// isBounded tells whether the bound is one that is promised.
func (g *living) isBounded() bool {
	return impl.BoundOf(g.Group).Value <= 20000
}

// allCome holds that everybody is there within the bound.
func (g *living) allCome(t *testing.T) {
	t.Helper()
	r := impl.SettleGroup(g.Group, impl.BoundOf(g.Group).Value)
	if r.Code != impl.OK || !impl.QuietGroup(r.Group) {
		t.Fatalf("%+v: within its bound it becomes %+v", g.Group, r)
	}
	for i, p := range g.Ledger.People {
		if now := r.Group.Ledger.People[i]; p.State <= impl.StateRides && (now.State != impl.StateThere || now.At != p.To) {
			t.Fatalf("%+v: %+v becomes %+v", g.Group, p, now)
		}
	}
}

// allAreLetOut holds that a recall lets all out who ride, and nobody else.
func (g *living) allAreLetOut(t *testing.T) {
	t.Helper()
	in := impl.RecallGroup(g.Group, true).Group
	r := impl.SettleGroup(in, impl.BoundOf(g.Group).Value)
	if r.Code != impl.OK || !impl.QuietGroup(r.Group) {
		t.Fatalf("%+v: recalled it becomes %+v", g.Group, r)
	}
	for i, p := range g.Ledger.People {
		want := []int64{impl.StateGone, impl.StateOut, impl.StateThere, impl.StateOut, impl.StateGone}[p.State]
		if now := r.Group.Ledger.People[i]; now.State != want {
			t.Fatalf("%+v: %+v becomes %+v", g.Group, p, now)
		}
	}
}

// lives holds promise 9 till that many ticks are over. In a wide house there are
// more of them between a call and the next one.
func (g *living) lives(t *testing.T, ticks int64) {
	t.Helper()
	longest := 3 + impl.RunBound(g.House).Value/15
	for g.Tick < ticks {
		switch n := g.dice.upTo(0, 199); {
		case n < 50:
			g.called(t)
		case n < 53:
			g.restarted(t, n > 50)
		case n < 55 && !g.drifts && !g.Recall && g.isBounded():
			g.allCome(t)
			g.allAreLetOut(t)
		case n == 56 || g.Recall && n < 70:
			r := impl.RecallGroup(g.Group, !g.Recall)
			wantGrouped(t, "RecallGroup", g.Group, r, plainRecalled(g.Group, !g.Recall))
			g.Group = r.Group
		default:
			for range g.dice.upTo(1, longest) {
				g.tick(t)
			}
		}
	}
}

func TestGroupsLive(t *testing.T) {
	for i, h := range append(groupHouses(), heavyHouse()) {
		for shafts := range int64(3) {
			for _, drifts := range []bool{false, true} {
				g := living{impl.NewGroup(h, shafts+1).Group, dice{state: uint64(i)*10 + uint64(shafts)}, drifts}
				g.lives(t, max(1500, 3*impl.RunBound(h).Value))
				if !drifts && len(who(g.Ledger, isOneOf(impl.StateThere))) == 0 {
					t.Errorf("%+v: nobody ever came anywhere", h)
				}
			}
		}
	}
}

// house is one without a fault, and not too wide for its bounds.
func (d *dice) house() impl.House {
	h := impl.House{Floors: d.upTo(2, 12), Length: d.upTo(1, 100), Speed: d.upTo(1, 60), Level: d.upTo(0, 6), Door: d.upTo(1, 4), Load: d.upTo(1, 3), Queue: d.upTo(1, 12), Gap: 1, Refuge: 1}
	h.Push = d.upTo(1, h.Speed)
	h.Brake = d.upTo(h.Push, h.Push+d.upTo(0, 60))
	h.Drift = d.upTo(0, h.Push-1)
	apart := impl.ApartOf(h).Value
	h.Gap, h.Refuge = apart+d.upTo(0, 3)*d.upTo(0, 40), apart+d.upTo(0, 3)*d.upTo(0, 40)
	return h
}

func TestGroupsLiveInManyHouses(t *testing.T) {
	d := &dice{state: 21}
	for range 150 {
		h := d.house()
		for _, drifts := range []bool{false, true} {
			g := living{impl.NewGroup(h, d.upTo(1, 3)).Group, *d, drifts}
			g.lives(t, 300)
			if !drifts && !g.Recall && g.isBounded() {
				g.allCome(t)
			}
		}
	}
}

// groupAnswersEverywhere tells answers as texts, since lists are not compared.
func groupAnswersEverywhere() []string {
	var list []string
	numbers := []int64{least, -1, 0, 1, 2, 3, big1, greatest}
	for _, h := range housesOfAllKinds() {
		for _, a := range numbers {
			for _, b := range numbers {
				c := impl.Car{Pos: a, Vel: b, Door: a}
				odd := impl.Deck{Shaft: impl.Shaft{Lower: c, Upper: c}, Spans: spansOf(a, b, a, b), PhaseL: b, PhaseU: a}
				groups := []impl.Group{
					{House: h, Decks: []impl.Deck{odd}, Ledger: impl.Ledger{Next: a}, Tick: b},
					withTick(freshGroup(h, 2, impl.Person{Id: 1, From: 1, Shaft: a, Car: b}), 7),
					{House: h, Decks: []impl.Deck{freshDeck(exampleHouse())}, Ledger: impl.Ledger{Next: 9, People: []impl.Person{{Id: a, From: b, To: a, State: b}}}},
				}
				for _, g := range groups {
					list = append(list, askedAll(g), fmt.Sprint(impl.NewGroup(h, a), impl.AssignCall(g, a, b), impl.CallLift(g, a, b), impl.NeedIn(g, a, b), impl.LeadOf(g, b),
						impl.TickGroup(g, a, b), impl.TickGroup(g, 0, 0), impl.RestartGroup(g, a > b), impl.RecallGroup(g, a > b), impl.SettleGroup(g, a), impl.SettleGroup(g, 5)))
				}
			}
		}
	}
	return list
}

// Every call of chapter 8 answers whatever it is given, and the same again when
// other calls stood between.
func TestGroupAnswersEverywhere(t *testing.T) {
	sameTwice(t, groupAnswersEverywhere)
}
