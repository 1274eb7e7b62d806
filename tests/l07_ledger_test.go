package tests

import (
	"fmt"
	"slices"
	"testing"

	"loop.example/g00155/impl"
)

// booking is what the document tells of passengers, worked out the plain way:
// rule by rule, with lists of those of whom a rule speaks.
type booking struct {
	house impl.House
	plan  plan
}

func bookingOf(h impl.House) booking {
	return booking{house: h, plan: planOf(h)}
}

func allBookings() []booking {
	var list []booking
	for _, h := range append(rightHouses(), smallHouse(), nearHouse(), outHouse(), impl.House{}) {
		list = append(list, bookingOf(h))
	}
	return list
}

type personRule func(impl.Person) bool

func is(state, shaft, car int64) personRule {
	return func(p impl.Person) bool { return p.State == state && p.Shaft == shaft && p.Car == car }
}

func isOneOf(states ...int64) personRule {
	return func(p impl.Person) bool { return slices.Contains(states, p.State) }
}

// who are those of a ledger of whom one of the rules holds.
func who(l impl.Ledger, rules ...personRule) []impl.Person {
	var list []impl.Person
	for _, p := range l.People {
		if slices.ContainsFunc(rules, func(rule personRule) bool { return rule(p) }) {
			list = append(list, p)
		}
	}
	return list
}

func (b booking) hasFloor(floor int64) bool {
	return floor >= 0 && floor < b.house.Floors
}

func (b booking) callFault(from, to int64) int64 {
	switch {
	case b.plan.fault != impl.OK:
		return b.plan.fault
	case !b.hasFloor(from) || !b.hasFloor(to):
		return impl.ErrRange
	case from == to:
		return impl.ErrForm
	}
	return impl.OK
}

func (b booking) personFault(p impl.Person, next int64, ahead []impl.Person) int64 {
	way := b.callFault(p.From, p.To)
	hasLeft := p.State == impl.StateThere || p.State == impl.StateOut
	switch {
	case p.Id < 1 || p.Id >= next:
		return impl.ErrRange
	case len(ahead) > 0 && p.Id <= ahead[len(ahead)-1].Id:
		return impl.ErrForm
	case way != impl.OK:
		return way
	case p.Shaft < 0, p.Shaft > 2, p.Car < 0, p.Car > 1, p.State < 0, p.State > 4, !b.hasFloor(p.At):
		return impl.ErrRange
	case p.At != 0 && !hasLeft, p.State == impl.StateThere && p.At != p.To:
		return impl.ErrForm
	}
	return impl.OK
}

func (b booking) ledgerFault(l impl.Ledger) int64 {
	switch {
	case b.plan.fault != impl.OK:
		return b.plan.fault
	case l.Next < 1 || l.Next > big1:
		return impl.ErrRange
	case len(l.People) > 60:
		return impl.ErrMany
	}
	for i, p := range l.People {
		if fault := b.personFault(p, l.Next, l.People[:i]); fault != impl.OK {
			return fault
		}
	}
	isCrowded := len(who(l, isOneOf(0))) > int(b.house.Queue)
	for _, c := range everyCar() {
		isCrowded = isCrowded || len(who(l, is(1, c.shaft, c.car))) > int(b.house.Load)
	}
	if isCrowded {
		return impl.ErrMany
	}
	return impl.OK
}

// numbered is a car by its two numbers.
type numbered struct{ shaft, car int64 }

func everyCar() []numbered {
	return []numbered{{0, 0}, {0, 1}, {1, 0}, {1, 1}, {2, 0}, {2, 1}}
}

func (c numbered) isRight() bool {
	return slices.Contains(everyCar(), c)
}

func (b booking) carFault(l impl.Ledger, c numbered) int64 {
	if fault := b.ledgerFault(l); fault != impl.OK {
		return fault
	}
	if !c.isRight() {
		return impl.ErrRange
	}
	return impl.OK
}

func (b booking) stopFault(l impl.Ledger, c numbered, floor int64) int64 {
	if fault := b.carFault(l, c); fault != impl.OK {
		return fault
	}
	if !b.hasFloor(floor) {
		return impl.ErrRange
	}
	return impl.OK
}

func (b booking) addFault(l impl.Ledger, from, to int64, c numbered) int64 {
	if fault := b.ledgerFault(l); fault != impl.OK {
		return fault
	}
	if fault := b.callFault(from, to); fault != impl.OK {
		return fault
	}
	switch {
	case !c.isRight():
		return impl.ErrRange
	case len(who(l, isOneOf(0))) == int(b.house.Queue):
		return impl.ErrBusy
	case len(who(l, isOneOf(0, 1))) == 60 || l.Next == big1:
		return impl.ErrMany
	}
	return impl.OK
}

func (b booking) added(l impl.Ledger, from, to int64, c numbered) impl.LedgerResult {
	if fault := b.addFault(l, from, to, c); fault != impl.OK {
		return impl.LedgerResult{Code: fault}
	}
	var people []impl.Person
	mustForget := len(l.People) == 60
	for _, p := range l.People {
		if mustForget && p.State > impl.StateRides {
			mustForget = false
			continue
		}
		people = append(people, p)
	}
	people = append(people, impl.Person{Id: l.Next, From: from, To: to, Shaft: c.shaft, Car: c.car})
	return impl.LedgerResult{Id: l.Next, Ledger: impl.Ledger{Next: l.Next + 1, People: people}}
}

func (b booking) need(l impl.Ledger, c numbered) impl.NeedResult {
	if fault := b.carFault(l, c); fault != impl.OK {
		return impl.NeedResult{Code: fault}
	}
	asked := who(l, is(1, c.shaft, c.car))
	if len(asked) < int(b.house.Load) {
		asked = append(asked, who(l, is(0, c.shaft, c.car))...)
	}
	if len(asked) == 0 {
		return impl.NeedResult{Code: impl.ErrNone}
	}
	first := slices.MinFunc(asked, func(p, q impl.Person) int { return int(p.Id - q.Id) })
	if first.State == impl.StateRides {
		return impl.NeedResult{Id: first.Id, Floor: first.To}
	}
	return impl.NeedResult{Id: first.Id, Floor: first.From}
}

// boarded lets one after the other in, each time the one of the least Id of
// those who still wait there.
func (b booking) boarded(l impl.Ledger, c numbered, floor int64) impl.LedgerResult {
	if fault := b.stopFault(l, c, floor); fault != impl.OK {
		return impl.LedgerResult{Code: fault}
	}
	l.People = slices.Clone(l.People)
	for len(who(l, is(1, c.shaft, c.car))) < int(b.house.Load) {
		at := slices.IndexFunc(l.People, func(p impl.Person) bool { return is(0, c.shaft, c.car)(p) && p.From == floor })
		if at < 0 {
			break
		}
		l.People[at].State = impl.StateRides
	}
	return impl.LedgerResult{Ledger: l}
}

// left has all who ride, and of whom the rule holds, leave the car.
func (b booking) left(l impl.Ledger, c numbered, floor, state int64, rule personRule) impl.LedgerResult {
	if fault := b.stopFault(l, c, floor); fault != impl.OK {
		return impl.LedgerResult{Code: fault}
	}
	l.People = slices.Clone(l.People)
	for i, p := range l.People {
		if is(1, c.shaft, c.car)(p) && rule(p) {
			l.People[i].State, l.People[i].At = state, floor
		}
	}
	return impl.LedgerResult{Ledger: l}
}

func (b booking) alighted(l impl.Ledger, c numbered, floor int64) impl.LedgerResult {
	return b.left(l, c, floor, impl.StateThere, func(p impl.Person) bool { return p.To == floor })
}

func (b booking) letOut(l impl.Ledger, c numbered, floor int64) impl.LedgerResult {
	return b.left(l, c, floor, impl.StateOut, func(impl.Person) bool { return true })
}

func (b booking) dropped(l impl.Ledger) impl.LedgerResult {
	if fault := b.ledgerFault(l); fault != impl.OK {
		return impl.LedgerResult{Code: fault}
	}
	l.People = slices.Clone(l.People)
	for i, p := range l.People {
		if p.State == impl.StateWaits {
			l.People[i].State = impl.StateGone
		}
	}
	return impl.LedgerResult{Ledger: l}
}

func (b booking) counted(l impl.Ledger) impl.IntsResult {
	if fault := b.ledgerFault(l); fault != impl.OK {
		return impl.IntsResult{Code: fault}
	}
	var list []int64
	for state := range int64(5) {
		list = append(list, int64(len(who(l, isOneOf(state)))))
	}
	return impl.IntsResult{List: list}
}

func (b booking) loaded(l impl.Ledger, c numbered) impl.IntsResult {
	if fault := b.carFault(l, c); fault != impl.OK {
		return impl.IntsResult{Code: fault}
	}
	var list []int64
	for _, p := range who(l, is(1, c.shaft, c.car)) {
		list = append(list, p.Id)
	}
	return impl.IntsResult{List: list}
}

// An empty list and nil are the same value, so lists are held by what they have.
func sameLedgers(a, b impl.Ledger) bool {
	return a.Next == b.Next && slices.Equal(a.People, b.People)
}

func sameBooked(a, b impl.LedgerResult) bool {
	return a.Code == b.Code && a.Id == b.Id && sameLedgers(a.Ledger, b.Ledger)
}

func sameInts(a, b impl.IntsResult) bool {
	return a.Code == b.Code && slices.Equal(a.List, b.List)
}

// wantBooked holds an answer, and that a ledger that is told has no fault.
func (b booking) wantBooked(t *testing.T, name string, l impl.Ledger, got, want impl.LedgerResult) {
	t.Helper()
	if !sameBooked(got, want) {
		t.Fatalf("%s of %+v and %+v is %+v, not %+v", name, b.house, l, got, want)
	}
	if got.Code == impl.OK && impl.LedgerFault(b.house, got.Ledger) != impl.OK {
		t.Fatalf("%s of %+v and %+v is %+v, which has a fault", name, b.house, l, got)
	}
}

func (b booking) holdsLedger(t *testing.T, l impl.Ledger) {
	t.Helper()
	if got, want := impl.LedgerFault(b.house, l), b.ledgerFault(l); got != want {
		t.Fatalf("LedgerFault(%+v, %+v) is %d, not %d", b.house, l, got, want)
	}
	if got, want := impl.CountPeople(b.house, l), b.counted(l); !sameInts(got, want) {
		t.Fatalf("CountPeople(%+v, %+v) is %+v, not %+v", b.house, l, got, want)
	}
	b.wantBooked(t, "DropWaiting", l, impl.DropWaiting(b.house, l), b.dropped(l))
}

func (b booking) holdsCar(t *testing.T, l impl.Ledger, c numbered) {
	t.Helper()
	if got, want := impl.NeedOf(b.house, l, c.shaft, c.car), b.need(l, c); got != want {
		t.Fatalf("NeedOf(%+v, %+v, %+v) is %+v, not %+v", b.house, l, c, got, want)
	}
	if got, want := impl.LoadOf(b.house, l, c.shaft, c.car), b.loaded(l, c); !sameInts(got, want) {
		t.Fatalf("LoadOf(%+v, %+v, %+v) is %+v, not %+v", b.house, l, c, got, want)
	}
}

func (b booking) holdsStop(t *testing.T, l impl.Ledger, c numbered, floor int64) {
	t.Helper()
	asked := fmt.Sprintf(" at %d, %+v,", floor, c)
	b.wantBooked(t, "BoardAt"+asked, l, impl.BoardAt(b.house, l, c.shaft, c.car, floor), b.boarded(l, c, floor))
	b.wantBooked(t, "AlightAt"+asked, l, impl.AlightAt(b.house, l, c.shaft, c.car, floor), b.alighted(l, c, floor))
	b.wantBooked(t, "LetOut"+asked, l, impl.LetOut(b.house, l, c.shaft, c.car, floor), b.letOut(l, c, floor))
}

func (b booking) holdsAdded(t *testing.T, l impl.Ledger, from, to int64, c numbered) {
	t.Helper()
	asked := fmt.Sprintf("AddCall of %d, %d, %+v,", from, to, c)
	b.wantBooked(t, asked, l, impl.AddCall(b.house, l, from, to, c.shaft, c.car), b.added(l, from, to, c))
}

// holdsEverything asks of one ledger all functions, for all cars and floors and
// the nearest that are none, and holds that the ledger stays as it was.
func (b booking) holdsEverything(t *testing.T, l impl.Ledger) {
	t.Helper()
	before := slices.Clone(l.People)
	cars := append(everyCar(), numbered{-1, 0}, numbered{3, 0}, numbered{0, -1}, numbered{0, 2})
	floors := []int64{-1, 0, 1, b.house.Floors / 2, b.house.Floors - 1, b.house.Floors}
	b.holdsLedger(t, l)
	for _, c := range cars {
		b.holdsCar(t, l, c)
		for _, floor := range floors {
			b.holdsStop(t, l, c, floor)
			b.holdsAdded(t, l, floor, 0, c)
			b.holdsAdded(t, l, b.house.Floors-1, floor, c)
		}
	}
	if !slices.Equal(l.People, before) {
		t.Fatalf("%+v: a ledger of %+v was changed to %+v", b.house, before, l.People)
	}
}

// ledger is one without a fault, of up to that many people.
func (d *dice) ledger(h impl.House, most int64) impl.Ledger {
	l := impl.Ledger{Next: 1}
	riders := map[numbered]int64{}
	waiting := int64(0)
	for range d.upTo(0, most) {
		p := impl.Person{Id: l.Next + d.upTo(0, 2), From: d.upTo(0, h.Floors-1), To: d.upTo(0, h.Floors-2), Shaft: d.upTo(0, 2), Car: d.upTo(0, 1), State: d.upTo(0, 4)}
		if p.To >= p.From {
			p.To++
		}
		c := numbered{p.Shaft, p.Car}
		switch {
		case p.State == impl.StateWaits && waiting < h.Queue:
			waiting++
		case p.State <= impl.StateRides && riders[c] < h.Load:
			p.State = impl.StateRides
			riders[c]++
		case p.State <= impl.StateThere:
			p.State, p.At = impl.StateThere, p.To
		case p.State == impl.StateOut:
			p.At = d.upTo(0, h.Floors-1)
		}
		l.People = append(l.People, p)
		l.Next = p.Id + 1 + d.upTo(0, 1)
	}
	return l
}

// personField is a number of a person from 0 to high in a house.
type personField struct {
	name string
	of   func(*impl.Person) *int64
	high func(impl.House) int64
}

func top(h impl.House) int64 {
	return h.Floors - 1
}

func personFields() []personField {
	return []personField{
		{"From", func(p *impl.Person) *int64 { return &p.From }, top},
		{"To", func(p *impl.Person) *int64 { return &p.To }, top},
		{"Shaft", func(p *impl.Person) *int64 { return &p.Shaft }, func(impl.House) int64 { return 2 }},
		{"Car", func(p *impl.Person) *int64 { return &p.Car }, func(impl.House) int64 { return 1 }},
		{"State", func(p *impl.Person) *int64 { return &p.State }, func(impl.House) int64 { return 4 }},
		{"At", func(p *impl.Person) *int64 { return &p.At }, top},
	}
}

// spoiled turns one number of a ledger, mostly of somebody in it, to one at or
// beyond a bound: often, but not always, there is a fault then.
func (d *dice) spoiled(h impl.House, l impl.Ledger) impl.Ledger {
	l.People = slices.Clone(l.People)
	if len(l.People) == 0 || d.upTo(0, 9) == 0 {
		l.Next = []int64{least, -1, 0, 1, l.Next - 1, big1, big1 + 1, greatest}[d.upTo(0, 7)]
		return l
	}
	p := &l.People[d.upTo(0, int64(len(l.People))-1)]
	if d.upTo(0, 6) == 0 {
		p.Id = []int64{least, 0, 1, p.Id - 1, p.Id + 1, l.Next - 1, l.Next, greatest}[d.upTo(0, 7)]
		return l
	}
	fields := personFields()
	f := fields[d.upTo(0, int64(len(fields))-1)]
	*f.of(p) = []int64{least, -1, 0, 1, f.high(h) - 1, f.high(h), f.high(h) + 1, greatest}[d.upTo(0, 7)]
	return l
}

// Ledgers of all kinds, without and with up to three faults, under all that may
// be asked of them.
func TestLedgersOfAllKinds(t *testing.T) {
	d := &dice{state: 7}
	for _, b := range allBookings() {
		maker := b.house
		if b.plan.fault != impl.OK {
			maker = exampleHouse()
		}
		for _, most := range []int64{0, 1, 3, 8, 20, 60, 60} {
			for range 12 {
				l := d.ledger(maker, most)
				b.holdsEverything(t, l)
				for range 3 {
					l = d.spoiled(maker, l)
					b.holdsEverything(t, l)
				}
			}
		}
	}
}

func TestPeopleConstants(t *testing.T) {
	states := []int64{impl.StateWaits, impl.StateRides, impl.StateThere, impl.StateOut, impl.StateGone}
	if impl.MaxPeople != 60 || impl.MaxShafts != 3 || !slices.Equal(states, []int64{0, 1, 2, 3, 4}) {
		t.Error(impl.MaxPeople, impl.MaxShafts, states)
	}
}

func TestCallFaultByHand(t *testing.T) {
	h := exampleHouse()
	rows := []struct{ from, to, want int64 }{
		{0, 2, impl.OK}, {2, 0, impl.OK}, {0, 1, impl.OK}, {1, 2, impl.OK}, {1, 0, impl.OK},
		{-1, 0, impl.ErrRange}, {0, -1, impl.ErrRange}, {3, 2, impl.ErrRange}, {2, 3, impl.ErrRange},
		{-1, 3, impl.ErrRange}, {3, -1, impl.ErrRange}, {least, 0, impl.ErrRange}, {0, greatest, impl.ErrRange},
		{0, 0, impl.ErrForm}, {1, 1, impl.ErrForm}, {2, 2, impl.ErrForm},
		{-1, -1, impl.ErrRange}, {3, 3, impl.ErrRange}, {least, least, impl.ErrRange}, {greatest, greatest, impl.ErrRange},
	}
	for _, r := range rows {
		if got := impl.CallFault(h, r.from, r.to); got != r.want {
			t.Errorf("CallFault of %d, %d is %d, not %d", r.from, r.to, got, r.want)
		}
	}
	if got := impl.CallFault(nearHouse(), -1, 3); got != impl.ErrForm {
		t.Errorf("a house too near, ahead of floors beyond it: %d", got)
	}
	if got := impl.CallFault(outHouse(), 1, 1); got != impl.ErrRange {
		t.Errorf("a house out of its bounds, ahead of the same floors: %d", got)
	}
}

func TestCallsAtEveryFloor(t *testing.T) {
	for _, b := range allBookings() {
		floors := outside(0, b.house.Floors-1)
		for floor := int64(-1); floor <= b.house.Floors; floor++ {
			floors = append(floors, floor)
		}
		for _, from := range floors {
			for _, to := range floors {
				if got, want := impl.CallFault(b.house, from, to), b.callFault(from, to); got != want {
					t.Fatalf("CallFault(%+v, %d, %d) is %d, not %d", b.house, from, to, got, want)
				}
			}
		}
	}
}

// someone is a person without a fault in every house, and stays so with any
// other State and At 0, and with any other At: let out at the floor to go to.
func someone(id int64) impl.Person {
	return impl.Person{Id: id, From: 1, To: 0, State: impl.StateOut}
}

func people(list ...impl.Person) impl.Ledger {
	l := impl.Ledger{Next: 1, People: list}
	if len(list) > 0 {
		l.Next = list[len(list)-1].Id + 1
	}
	return l
}

// crowd are that many who are alike but for their Ids, from first on.
func crowd(count int, first int64, like impl.Person) []impl.Person {
	var list []impl.Person
	for i := range count {
		like.Id = first + int64(i)
		list = append(list, like)
	}
	return list
}

func wantFault(t *testing.T, name string, h impl.House, l impl.Ledger, want int64) {
	t.Helper()
	if got := impl.LedgerFault(h, l); got != want {
		t.Errorf("%s: LedgerFault is %d, not %d", name, got, want)
	}
}

func TestBoundsOfALedger(t *testing.T) {
	h := exampleHouse()
	done := func(count int) []impl.Person { return crowd(count, 1, someone(0)) }
	rows := []struct {
		name string
		l    impl.Ledger
		want int64
	}{
		{"Next 0", impl.Ledger{}, impl.ErrRange},
		{"Next 1", impl.Ledger{Next: 1}, impl.OK},
		{"Next -1", impl.Ledger{Next: -1}, impl.ErrRange},
		{"Next MaxBig", impl.Ledger{Next: big1}, impl.OK},
		{"Next above MaxBig", impl.Ledger{Next: big1 + 1}, impl.ErrRange},
		{"Next the least", impl.Ledger{Next: least}, impl.ErrRange},
		{"Next the greatest", impl.Ledger{Next: greatest}, impl.ErrRange},
		{"59 people", impl.Ledger{Next: 60, People: done(59)}, impl.OK},
		{"60 people", impl.Ledger{Next: 61, People: done(60)}, impl.OK},
		{"61 people", impl.Ledger{Next: 62, People: done(61)}, impl.ErrMany},
		{"5000 people", impl.Ledger{Next: 5001, People: done(5000)}, impl.ErrMany},
		{"Id 0", impl.Ledger{Next: 5, People: []impl.Person{someone(0)}}, impl.ErrRange},
		{"Id 1", impl.Ledger{Next: 5, People: []impl.Person{someone(1)}}, impl.OK},
		{"Id Next - 1", impl.Ledger{Next: 5, People: []impl.Person{someone(4)}}, impl.OK},
		{"Id Next", impl.Ledger{Next: 5, People: []impl.Person{someone(5)}}, impl.ErrRange},
		{"Id above Next", impl.Ledger{Next: 5, People: []impl.Person{someone(6)}}, impl.ErrRange},
		{"Id -1", impl.Ledger{Next: 5, People: []impl.Person{someone(-1)}}, impl.ErrRange},
		{"Id the least", impl.Ledger{Next: 5, People: []impl.Person{someone(least)}}, impl.ErrRange},
		{"Id the greatest", impl.Ledger{Next: 5, People: []impl.Person{someone(greatest)}}, impl.ErrRange},
		{"Id 1 with Next 1", impl.Ledger{Next: 1, People: []impl.Person{someone(1)}}, impl.ErrRange},
		{"Id MaxBig - 1 with Next MaxBig", impl.Ledger{Next: big1, People: []impl.Person{someone(big1 - 1)}}, impl.OK},
		{"Id MaxBig with Next MaxBig", impl.Ledger{Next: big1, People: []impl.Person{someone(big1)}}, impl.ErrRange},
		{"Id above that of the one ahead", impl.Ledger{Next: 9, People: []impl.Person{someone(3), someone(4)}}, impl.OK},
		{"Id far above it", impl.Ledger{Next: 9, People: []impl.Person{someone(3), someone(8)}}, impl.OK},
		{"Id the same", impl.Ledger{Next: 9, People: []impl.Person{someone(3), someone(3)}}, impl.ErrForm},
		{"Id below it", impl.Ledger{Next: 9, People: []impl.Person{someone(3), someone(2)}}, impl.ErrForm},
		{"Id below it, but not below the first", impl.Ledger{Next: 9, People: []impl.Person{someone(1), someone(3), someone(2)}}, impl.ErrForm},
		{"the last Id the same", impl.Ledger{Next: 9, People: append(done(5), someone(5))}, impl.ErrForm},
		{"the last Id is Next", impl.Ledger{Next: 9, People: append(done(5), someone(9))}, impl.ErrRange},
	}
	for _, r := range rows {
		wantFault(t, r.name, h, r.l, r.want)
	}
}

// Each number of a person at its bounds and one beyond, of the first, one in
// the midst and the last of a ledger.
func TestBoundsOfAPerson(t *testing.T) {
	for _, h := range rightHouses() {
		for _, f := range personFields() {
			for place := range 3 {
				for _, n := range append(outside(0, f.high(h)), 0, f.high(h)) {
					list := crowd(3, 2, someone(0))
					p := &list[place]
					*f.of(p) = n
					if f.name == "From" && n == 0 { // the floors are never the same
						p.To = 1
					} else if f.name == "To" {
						p.From = 0
						if n == 0 {
							p.From = 1
						}
					}
					want := int64(impl.OK)
					if n < 0 || n > f.high(h) {
						want = impl.ErrRange
					}
					wantFault(t, fmt.Sprint(f.name, " of ", n), h, people(list...), want)
				}
			}
		}
		same := someone(1)
		same.From = 0
		wantFault(t, "From and To the same", h, people(same), impl.ErrForm)
	}
}

// The floor that was left, of every state, in the example of three floors.
func TestAtOfEveryState(t *testing.T) {
	rows := []struct {
		state, from, to, at, want int64
	}{
		{impl.StateWaits, 1, 2, 0, impl.OK}, {impl.StateWaits, 1, 2, 1, impl.ErrForm}, {impl.StateWaits, 1, 2, 2, impl.ErrForm},
		{impl.StateRides, 1, 2, 0, impl.OK}, {impl.StateRides, 1, 2, 1, impl.ErrForm}, {impl.StateRides, 1, 2, 2, impl.ErrForm},
		{impl.StateThere, 1, 2, 0, impl.ErrForm}, {impl.StateThere, 1, 2, 1, impl.ErrForm}, {impl.StateThere, 1, 2, 2, impl.OK},
		{impl.StateThere, 2, 1, 0, impl.ErrForm}, {impl.StateThere, 2, 1, 1, impl.OK}, {impl.StateThere, 2, 1, 2, impl.ErrForm},
		{impl.StateThere, 2, 0, 0, impl.OK}, {impl.StateThere, 2, 0, 1, impl.ErrForm}, {impl.StateThere, 2, 0, 2, impl.ErrForm},
		{impl.StateOut, 1, 2, 0, impl.OK}, {impl.StateOut, 1, 2, 1, impl.OK}, {impl.StateOut, 1, 2, 2, impl.OK},
		{impl.StateGone, 1, 2, 0, impl.OK}, {impl.StateGone, 1, 2, 1, impl.ErrForm}, {impl.StateGone, 1, 2, 2, impl.ErrForm},
		{impl.StateWaits, 1, 0, 0, impl.OK}, {impl.StateGone, 0, 1, 0, impl.OK}, {impl.StateGone, 0, 1, 1, impl.ErrForm},
	}
	for _, r := range rows {
		l := people(impl.Person{Id: 1, From: r.from, To: r.to, State: r.state, At: r.at})
		wantFault(t, fmt.Sprintf("%+v", r), exampleHouse(), l, r.want)
	}
}

// joined are lists one behind the other, with Ids from 1 on.
func joined(lists ...[]impl.Person) impl.Ledger {
	all := slices.Concat(lists...)
	for i := range all {
		all[i].Id = int64(i) + 1
	}
	return people(all...)
}

func waiting(count int, shaft, car int64) []impl.Person {
	return crowd(count, 1, impl.Person{From: 1, To: 0, Shaft: shaft, Car: car})
}

func riding(count int, shaft, car int64) []impl.Person {
	return crowd(count, 1, impl.Person{From: 1, To: 0, Shaft: shaft, Car: car, State: impl.StateRides})
}

// No house has more who wait than Queue, or more in one car than Load; what is
// in one car is not counted in another, whether of that shaft or of another.
func TestCrowds(t *testing.T) {
	for _, h := range rightHouses() {
		queue, load := int(h.Queue), int(h.Load)
		full := func(c numbered) []impl.Person { return riding(load, c.shaft, c.car) }
		wantFault(t, "Queue wait", h, joined(waiting(queue, 0, 0)), impl.OK)
		wantFault(t, "one more waits", h, joined(waiting(queue+1, 0, 0)), impl.ErrMany)
		wantFault(t, "one more waits elsewhere", h, joined(waiting(queue, 0, 0), waiting(1, 2, 1)), impl.ErrMany)
		wantFault(t, "one more waits behind others", h, joined(waiting(queue, 1, 0), riding(1, 1, 0), waiting(1, 1, 1)), impl.ErrMany)
		for _, c := range everyCar() {
			wantFault(t, "Load ride", h, joined(full(c)), impl.OK)
			wantFault(t, "one more rides", h, joined(full(c), riding(1, c.shaft, c.car)), impl.ErrMany)
			wantFault(t, "one more rides behind another car's", h, joined(full(c), riding(1, c.shaft, 1-c.car), riding(1, c.shaft, c.car)), impl.ErrMany)
			wantFault(t, "Load ride in both cars of a shaft", h, joined(full(c), full(numbered{c.shaft, 1 - c.car})), impl.OK)
			wantFault(t, "Load ride in the same car of two shafts", h, joined(full(c), full(numbered{(c.shaft + 1) % 3, c.car})), impl.OK)
			wantFault(t, "others who do neither", h, joined(full(c), crowd(9, 1, impl.Person{From: 1, Shaft: c.shaft, Car: c.car, State: impl.StateThere})), impl.OK)
			wantFault(t, "others who wait", h, joined(full(c), waiting(1, c.shaft, c.car)), impl.OK)
		}
	}
	h := exampleHouse()
	every := [][]impl.Person{waiting(4, 0, 0)}
	for _, c := range everyCar() {
		every = append(every, riding(2, c.shaft, c.car))
	}
	wantFault(t, "all cars full, and Queue wait", h, joined(every...), impl.OK)
}

// personFault is a way in which a person may be wrong, who must have an Id
// above 5.
type personFault struct {
	name string
	code int64
	turn func(*impl.Person)
}

// personFaults are in the order in which they are asked.
func personFaults() []personFault {
	return []personFault{
		{"Id beyond", impl.ErrRange, func(p *impl.Person) { p.Id = 0 }},
		{"Id not above", impl.ErrForm, func(p *impl.Person) { p.Id = min(p.Id, 5) }},
		{"From beyond", impl.ErrRange, func(p *impl.Person) { p.From = 3 }},
		{"From and To the same", impl.ErrForm, func(p *impl.Person) { p.To = p.From }},
		{"Shaft beyond", impl.ErrRange, func(p *impl.Person) { p.Shaft = 3 }},
		{"At, but waits", impl.ErrForm, func(p *impl.Person) { p.State, p.At = impl.StateWaits, 1 }},
	}
}

func TestLedgerFaultAsksAPersonInOrder(t *testing.T) {
	h, faults := exampleHouse(), personFaults()
	for i, a := range faults {
		for _, b := range faults[i:] {
			p := someone(7)
			a.turn(&p)
			b.turn(&p)
			l := impl.Ledger{Next: 9, People: []impl.Person{someone(5), p}}
			wantFault(t, a.name+", and "+b.name, h, l, a.code)
		}
	}
	rows := []struct {
		name string
		p    impl.Person
		want int64
	}{
		{"At beyond, and waits", impl.Person{Id: 7, From: 1, At: 3}, impl.ErrRange},
		{"At beyond, and there", impl.Person{Id: 7, From: 1, State: impl.StateThere, At: -1}, impl.ErrRange},
		{"State beyond, and At", impl.Person{Id: 7, From: 1, State: 5, At: 1}, impl.ErrRange},
		{"Car beyond, and At", impl.Person{Id: 7, From: 1, Car: 2, At: 1}, impl.ErrRange},
		{"To beyond, and At", impl.Person{Id: 7, From: 1, To: 3, At: 1}, impl.ErrRange},
		{"all numbers the least", impl.Person{Id: least, From: least, To: least, Shaft: least, Car: least, State: least, At: least}, impl.ErrRange},
		{"all but the Id the greatest", impl.Person{Id: 5, From: greatest, To: greatest, Shaft: greatest, Car: greatest, State: greatest, At: greatest}, impl.ErrForm},
		{"the same floors, all else the greatest", impl.Person{Id: 7, From: 2, To: 2, Shaft: greatest, Car: greatest, State: greatest, At: greatest}, impl.ErrForm},
	}
	for _, r := range rows {
		wantFault(t, r.name, h, impl.Ledger{Next: 9, People: []impl.Person{someone(5), r.p}}, r.want)
	}
}

// Of two persons the first is asked all ahead of the second; and both are asked
// ahead of how many there are.
func TestLedgerFaultGoesPersonByPerson(t *testing.T) {
	h, faults := exampleHouse(), personFaults()
	crowded := crowd(5, 11, impl.Person{From: 1})
	crowded = append(crowded, crowd(3, 16, impl.Person{From: 1, State: impl.StateRides})...)
	wantFault(t, "a crowd alone", h, impl.Ledger{Next: 20, People: crowded}, impl.ErrMany)
	for _, a := range faults {
		p := someone(7)
		a.turn(&p)
		for _, b := range faults {
			q := someone(10)
			b.turn(&q)
			if b.name == "Id not above" {
				q.Id = 4
			}
			two := []impl.Person{someone(5), p, q}
			wantFault(t, a.name+", then "+b.name, h, impl.Ledger{Next: 20, People: two}, a.code)
			wantFault(t, a.name+", then "+b.name+", then a crowd", h, impl.Ledger{Next: 20, People: append(two, crowded...)}, a.code)
		}
		behind := someone(19)
		a.turn(&behind)
		wantFault(t, "a crowd, then "+a.name, h, impl.Ledger{Next: 20, People: append(slices.Clone(crowded), behind)}, a.code)
	}
}

func TestLedgerFaultAsksInOrder(t *testing.T) {
	h := exampleHouse()
	form := someone(1)
	form.To = 1
	many := append([]impl.Person{form}, crowd(60, 2, someone(0))...)
	rows := []struct {
		name  string
		house impl.House
		l     impl.Ledger
		want  int64
	}{
		{"a house too near, ahead of Next", nearHouse(), impl.Ledger{}, impl.ErrForm},
		{"a house too near, ahead of many", nearHouse(), impl.Ledger{Next: 99, People: many}, impl.ErrForm},
		{"a house out of bounds, ahead of many", outHouse(), impl.Ledger{Next: 99, People: many}, impl.ErrRange},
		{"a house out of bounds, ahead of a person", outHouse(), impl.Ledger{Next: 99, People: many[:1]}, impl.ErrRange},
		{"no house", impl.House{}, impl.Ledger{Next: 1}, impl.ErrRange},
		{"Next ahead of many", h, impl.Ledger{Next: 0, People: many}, impl.ErrRange},
		{"Next ahead of a person", h, impl.Ledger{Next: big1 + 1, People: many[:1]}, impl.ErrRange},
		{"many ahead of a person", h, impl.Ledger{Next: 99, People: many}, impl.ErrMany},
		{"a person", h, impl.Ledger{Next: 99, People: many[:60]}, impl.ErrForm},
		{"all is right", h, impl.Ledger{Next: 99, People: many[1:]}, impl.OK},
	}
	for _, r := range rows {
		wantFault(t, r.name, r.house, r.l, r.want)
	}
}

// wantLedger holds an answer that tells no code.
func wantLedger(t *testing.T, name string, got impl.LedgerResult, id, next int64, want ...impl.Person) {
	t.Helper()
	if !sameBooked(got, impl.LedgerResult{Id: id, Ledger: impl.Ledger{Next: next, People: want}}) {
		t.Errorf("%s: %+v, not Id %d, Next %d, %+v", name, got, id, next, want)
	}
}

// wantCode holds an answer with a code: all else is zero.
func wantCode(t *testing.T, name string, got impl.LedgerResult, code int64) {
	t.Helper()
	if !sameBooked(got, impl.LedgerResult{Code: code}) {
		t.Errorf("%s: %+v, not code %d alone", name, got, code)
	}
}

func TestAddCallByHand(t *testing.T) {
	h := exampleHouse()
	first := impl.Person{Id: 1, From: 2, To: 0, Shaft: 2, Car: 1}
	r := impl.AddCall(h, impl.Ledger{Next: 1}, 2, 0, 2, 1)
	wantLedger(t, "the first", r, 1, 2, first)
	second := impl.Person{Id: 2, From: 0, To: 1}
	r = impl.AddCall(h, r.Ledger, 0, 1, 0, 0)
	wantLedger(t, "the second", r, 2, 3, first, second)
	r = impl.AddCall(h, impl.Ledger{Next: 40, People: []impl.Person{someone(3), someone(20)}}, 1, 2, 1, 0)
	wantLedger(t, "Next goes on from where it was", r, 40, 41, someone(3), someone(20), impl.Person{Id: 40, From: 1, To: 2, Shaft: 1})
	r = impl.AddCall(h, impl.Ledger{Next: big1 - 1}, 0, 2, 0, 0)
	wantLedger(t, "the last Id that there is", r, big1-1, big1, impl.Person{Id: big1 - 1, To: 2})
	wantCode(t, "none behind it", impl.AddCall(h, r.Ledger, 0, 2, 0, 0), impl.ErrMany)
	wantCode(t, "Next MaxBig, nobody there", impl.AddCall(h, impl.Ledger{Next: big1}, 0, 2, 0, 0), impl.ErrMany)
	wantCode(t, "Next 0", impl.AddCall(h, impl.Ledger{}, 0, 2, 0, 0), impl.ErrRange)
}

// Four may wait in the example: whoever does not wait is not counted.
func TestAddCallWhereQueueWait(t *testing.T) {
	h := exampleHouse()
	three := joined(waiting(2, 0, 0), riding(2, 0, 0), waiting(1, 2, 1), crowd(9, 1, someone(0)))
	r := impl.AddCall(h, three, 0, 2, 1, 1)
	if r.Code != impl.OK || r.Id != 15 || len(r.Ledger.People) != 15 || len(who(r.Ledger, isOneOf(0))) != 4 {
		t.Errorf("one more than three: %+v", r)
	}
	wantCode(t, "one more than four", impl.AddCall(h, r.Ledger, 0, 2, 1, 1), impl.ErrBusy)
	boarded := impl.BoardAt(h, r.Ledger, 1, 1, 0)
	if again := impl.AddCall(h, boarded.Ledger, 0, 2, 1, 1); again.Code != impl.OK || again.Id != 16 {
		t.Errorf("when one has boarded: %+v", again)
	}
	full := r.Ledger
	full.Next = big1
	wantCode(t, "busy ahead of many", impl.AddCall(h, full, 0, 2, 1, 1), impl.ErrBusy)
}

// fullLedger has 60 people, of whom 39 wait, and the others ride in all cars.
func fullLedger() impl.Ledger {
	l := joined(riding(3, 2, 1), waiting(39, 0, 0), riding(18, 1, 0))
	for i := range l.People {
		l.People[i].Id = 3*int64(i) + 2
	}
	l.Next = 500
	return l
}

// doneAt has those at these places done, in that state.
func doneAt(l impl.Ledger, state int64, places ...int) impl.Ledger {
	l.People = slices.Clone(l.People)
	for _, at := range places {
		l.People[at].State = state
		if state == impl.StateOut {
			l.People[at].At = 4
		}
	}
	return l
}

func TestWhoIsForgotten(t *testing.T) {
	h := greatestHouse()
	caller := impl.Person{Id: 500, From: 3, To: 11, Shaft: 1, Car: 1}
	add := func(l impl.Ledger) impl.LedgerResult { return impl.AddCall(h, l, 3, 11, 1, 1) }
	full := fullLedger()
	wantFault(t, "a full ledger", h, full, impl.OK)
	wantCode(t, "all wait or ride", add(full), impl.ErrMany)
	places := [][]int{{0}, {1}, {2}, {29}, {30}, {58}, {59}, {0, 59}, {1, 2}, {29, 30, 31}, {58, 59}, {0, 1, 2, 3, 4}}
	for state := int64(impl.StateThere); state <= impl.StateGone; state++ {
		for _, at := range places {
			l := doneAt(full, state, at...)
			want := append(slices.Delete(slices.Clone(l.People), at[0], at[0]+1), caller)
			wantLedger(t, fmt.Sprintf("state %d at %v", state, at), add(l), 500, 501, want...)
		}
	}
	mixed := doneAt(doneAt(full, impl.StateGone, 20), impl.StateThere, 50)
	want := append(slices.Delete(slices.Clone(mixed.People), 20, 21), caller)
	wantLedger(t, "the first, whatever its state", add(mixed), 500, 501, want...)
	mixed = doneAt(doneAt(full, impl.StateThere, 20), impl.StateGone, 10)
	want = append(slices.Delete(slices.Clone(mixed.People), 10, 11), caller)
	wantLedger(t, "the first, though it is gone", add(mixed), 500, 501, want...)
}

func TestNobodyIsForgottenWhereThereIsRoom(t *testing.T) {
	h := greatestHouse()
	l := doneAt(fullLedger(), impl.StateGone, 0, 30, 58)
	l.People = l.People[:59]
	caller := impl.Person{Id: 500, From: 3, To: 11, Shaft: 1, Car: 1}
	r := impl.AddCall(h, l, 3, 11, 1, 1)
	wantLedger(t, "59 people", r, 500, 501, append(slices.Clone(l.People), caller)...)
	all := impl.Ledger{Next: 500, People: fullLedger().People[:59]}
	r = impl.AddCall(h, all, 3, 11, 1, 1)
	wantLedger(t, "59 who all wait or ride", r, 500, 501, append(slices.Clone(all.People), caller)...)
	dropped := impl.DropWaiting(h, r.Ledger).Ledger
	again := impl.AddCall(h, dropped, 0, 1, 0, 0)
	if again.Code != impl.OK || len(again.Ledger.People) != 60 || again.Ledger.People[3].Id != dropped.People[4].Id {
		t.Errorf("the first who is gone is forgotten: %+v", again)
	}
}

func TestAddCallToAFullLedgerAsksInOrder(t *testing.T) {
	h := greatestHouse()
	busy := joined(waiting(40, 0, 0), riding(20, 0, 0))
	wantFault(t, "40 wait, 20 ride", h, busy, impl.OK)
	wantCode(t, "busy ahead of many", impl.AddCall(h, busy, 3, 11, 1, 1), impl.ErrBusy)
	wantCode(t, "busy, though one is there", impl.AddCall(h, doneAt(busy, impl.StateThere, 59), 3, 11, 1, 1), impl.ErrBusy)
	last := doneAt(fullLedger(), impl.StateThere, 7)
	last.Next = big1
	wantCode(t, "Next MaxBig, though one is there", impl.AddCall(h, last, 3, 11, 1, 1), impl.ErrMany)
	last.Next = big1 - 1
	if r := impl.AddCall(h, last, 3, 11, 1, 1); r.Code != impl.OK || r.Id != big1-1 || r.Ledger.Next != big1 {
		t.Errorf("Next MaxBig - 1: %+v", r)
	}
	wantCode(t, "the same floors ahead of many", impl.AddCall(h, fullLedger(), 3, 3, 1, 1), impl.ErrForm)
	wantCode(t, "shaft ahead of many", impl.AddCall(h, fullLedger(), 3, 11, 3, 1), impl.ErrRange)
	wantCode(t, "shaft ahead of busy", impl.AddCall(h, busy, 3, 11, 3, 1), impl.ErrRange)
	wantCode(t, "car ahead of busy", impl.AddCall(h, busy, 3, 11, 1, 2), impl.ErrRange)
	wantCode(t, "a floor ahead of busy", impl.AddCall(h, busy, 12, 11, 1, 1), impl.ErrRange)
}

// from and to are asked ahead of shaft and car.
func TestAddCallAsksInOrder(t *testing.T) {
	h, l := exampleHouse(), impl.Ledger{Next: 1}
	rows := []struct {
		name                        string
		from, to, shaft, car, wants int64
	}{
		{"the same floors", 1, 1, 0, 0, impl.ErrForm},
		{"the same floors, ahead of shaft", 1, 1, 3, 0, impl.ErrForm},
		{"the same floors, ahead of car", 1, 1, 0, 2, impl.ErrForm},
		{"from below", -1, 1, 0, 0, impl.ErrRange},
		{"from above", 3, 1, 0, 0, impl.ErrRange},
		{"to below", 1, -1, 0, 0, impl.ErrRange},
		{"to above", 1, 3, 0, 0, impl.ErrRange},
		{"shaft below", 0, 1, -1, 0, impl.ErrRange},
		{"shaft above", 0, 1, 3, 0, impl.ErrRange},
		{"car below", 0, 1, 0, -1, impl.ErrRange},
		{"car above", 0, 1, 0, 2, impl.ErrRange},
		{"the lowest of all", 0, 1, 0, 0, impl.OK},
		{"the highest of all", 2, 1, 2, 1, impl.OK},
	}
	for _, r := range rows {
		if got := impl.AddCall(h, l, r.from, r.to, r.shaft, r.car); r.wants == impl.OK {
			wantLedger(t, r.name, got, 1, 2, impl.Person{Id: 1, From: r.from, To: r.to, Shaft: r.shaft, Car: r.car})
		} else {
			wantCode(t, r.name, got, r.wants)
		}
	}
}

// person is told by a letter: w waits, r rides, t is there, o was let out (at the
// lowest floor), g is gone.
func person(id int64, kind byte, from, to, shaft, car int64) impl.Person {
	p := impl.Person{Id: id, From: from, To: to, Shaft: shaft, Car: car, State: int64(slices.Index([]byte("wrtog"), kind))}
	if kind == 't' {
		p.At = to
	}
	return p
}

func TestNeedByHand(t *testing.T) {
	h := exampleHouse() // two ride in a car at most
	others := []impl.Person{
		person(1, 'w', 1, 0, 1, 1), person(2, 'r', 0, 1, 2, 0), person(3, 't', 0, 2, 1, 0), person(4, 'o', 0, 2, 1, 0),
		person(5, 'g', 0, 2, 1, 0), person(6, 'w', 0, 1, 0, 0), person(7, 'r', 1, 2, 1, 1), person(8, 'r', 1, 2, 1, 1),
	}
	rows := []struct {
		name string
		list []impl.Person // of the shaft 1, the lower car
		want impl.NeedResult
	}{
		{"nobody", nil, impl.NeedResult{Code: impl.ErrNone}},
		{"nobody who waits or rides", []impl.Person{person(11, 't', 0, 2, 1, 0), person(12, 'o', 0, 2, 1, 0), person(13, 'g', 2, 1, 1, 0)}, impl.NeedResult{Code: impl.ErrNone}},
		{"one waits", []impl.Person{person(11, 'w', 2, 1, 1, 0)}, impl.NeedResult{Id: 11, Floor: 2}},
		{"one rides", []impl.Person{person(11, 'r', 2, 1, 1, 0)}, impl.NeedResult{Id: 11, Floor: 1}},
		{"one waits at the lowest floor", []impl.Person{person(11, 'w', 0, 1, 1, 0)}, impl.NeedResult{Id: 11}},
		{"one rides to the lowest floor", []impl.Person{person(11, 'r', 1, 0, 1, 0)}, impl.NeedResult{Id: 11}},
		{"two wait", []impl.Person{person(11, 'w', 2, 1, 1, 0), person(12, 'w', 0, 1, 1, 0)}, impl.NeedResult{Id: 11, Floor: 2}},
		{"the one who waits is the older", []impl.Person{person(11, 'w', 2, 1, 1, 0), person(12, 'r', 2, 0, 1, 0)}, impl.NeedResult{Id: 11, Floor: 2}},
		{"the one who rides is the older", []impl.Person{person(11, 'r', 2, 1, 1, 0), person(12, 'w', 0, 1, 1, 0)}, impl.NeedResult{Id: 11, Floor: 1}},
		{"the car is full, and an older one waits", []impl.Person{person(11, 'w', 2, 1, 1, 0), person(12, 'r', 2, 1, 1, 0), person(13, 'r', 1, 0, 1, 0)}, impl.NeedResult{Id: 12, Floor: 1}},
		{"the car is full, and an older one waits between", []impl.Person{person(11, 'r', 2, 1, 1, 0), person(12, 'w', 2, 1, 1, 0), person(13, 'r', 1, 0, 1, 0)}, impl.NeedResult{Id: 11, Floor: 1}},
		{"the car is full, and all who wait are younger", []impl.Person{person(11, 'r', 0, 2, 1, 0), person(12, 'r', 0, 1, 1, 0), person(13, 'w', 1, 0, 1, 0)}, impl.NeedResult{Id: 11, Floor: 2}},
		{"who is done is older", []impl.Person{person(11, 'g', 0, 2, 1, 0), person(12, 't', 0, 1, 1, 0), person(13, 'o', 0, 1, 1, 0), person(14, 'w', 1, 0, 1, 0)}, impl.NeedResult{Id: 14, Floor: 1}},
	}
	for _, r := range rows {
		if got := impl.NeedOf(h, impl.Ledger{Next: 20, People: r.list}, 1, 0); got != r.want {
			t.Errorf("%s: NeedOf is %+v", r.name, got)
		}
		if got := impl.NeedOf(h, impl.Ledger{Next: 20, People: append(slices.Clone(others), r.list...)}, 1, 0); got != r.want {
			t.Errorf("%s, and others in other cars: NeedOf is %+v", r.name, got)
		}
	}
	wantFault(t, "the others", h, impl.Ledger{Next: 20, People: others}, impl.OK)
}

// statesOf are those of people, by the letters of person.
func statesOf(list []impl.Person) string {
	text := ""
	for _, p := range list {
		text += "wrtog"[p.State : p.State+1]
	}
	return text
}

// lettered are people of the shaft 1, the upper car, by those letters: all go
// from floor 0 to floor 1, those in capitals from floor 2 to floor 1.
func lettered(kinds string) impl.Ledger {
	l := impl.Ledger{Next: 1}
	for _, kind := range []byte(kinds) {
		from := int64(0)
		if kind < 'a' {
			from, kind = 2, kind+'a'-'A'
		}
		l.People = append(l.People, person(l.Next, kind, from, 1, 1, 1))
		l.Next++
	}
	return l
}

func TestBoardByHand(t *testing.T) {
	h := exampleHouse()
	h.Load, h.Queue = 3, 8
	rows := []struct{ name, before, want string }{
		{"nobody at all", "", ""},
		{"none waits", "rtog", "rtog"},
		{"none waits there", "rW", "rw"},
		{"one waits", "w", "r"},
		{"one waits among others", "gWtworW", "gwtrorw"},
		{"two wait", "ww", "rr"},
		{"as many wait as there are places", "www", "rrr"},
		{"more wait than there are places", "wwww", "rrrw"},
		{"many wait, one place is free", "wrwrw", "rrwrw"},
		{"many wait, two places are free", "wrwWw", "rrrww"},
		{"those who ride are the younger", "wwwrr", "rwwrr"},
		{"the car is full", "rrr", "rrr"},
		{"the car is full, and some wait", "rwrwr", "rwrwr"},
		{"the oldest wait elsewhere", "WWwW", "wwrw"},
		{"who rides from elsewhere is counted", "RRww", "rrrw"},
		{"who is done is not counted", "tttggwow", "tttggror"},
	}
	for _, r := range rows {
		l := lettered(r.before)
		got := impl.BoardAt(h, l, 1, 1, 0)
		want := slices.Clone(l.People)
		for i := range want {
			want[i].State = int64(slices.Index([]byte("wrtog"), r.want[i]))
		}
		wantLedger(t, r.name+": "+statesOf(got.Ledger.People), got, 0, l.Next, want...)
	}
	others := people(person(1, 'w', 0, 1, 1, 0), person(2, 'w', 0, 1, 0, 1), person(3, 'r', 0, 1, 1, 0), person(4, 'w', 0, 1, 2, 1))
	wantLedger(t, "others wait for other cars", impl.BoardAt(h, others, 1, 1, 0), 0, 5, others.People...)
	full := joined(riding(3, 0, 1), riding(3, 1, 0), waiting(1, 1, 1))
	if got := impl.BoardAt(h, full, 1, 1, 1); statesOf(got.Ledger.People) != "rrrrrrr" {
		t.Errorf("other cars are full: %+v", got)
	}
}

func TestAlightAndLetOutByHand(t *testing.T) {
	h := exampleHouse()
	h.Load, h.Queue = 5, 8
	all := people(
		person(1, 'r', 0, 2, 1, 1), person(2, 'r', 0, 1, 1, 1), person(3, 'w', 0, 2, 1, 1), person(4, 'r', 1, 2, 1, 1),
		person(5, 'r', 1, 2, 1, 0), person(6, 'r', 0, 2, 0, 1), person(7, 'w', 2, 0, 1, 1), person(8, 'g', 0, 2, 1, 1),
		person(9, 'o', 0, 2, 1, 1), person(10, 't', 0, 2, 1, 1), person(11, 'r', 1, 0, 1, 1), person(12, 'r', 0, 2, 2, 1),
	)
	all.People[8].At = 1
	wantFault(t, "all", h, all, impl.OK)
	rows := []struct {
		name      string
		call      func(impl.House, impl.Ledger, int64, int64, int64) impl.LedgerResult
		shaft     int64
		car       int64
		floor     int64
		places    []int // who is changed
		nextState int64
	}{
		{"several alight", impl.AlightAt, 1, 1, 2, []int{0, 3}, impl.StateThere},
		{"one alights", impl.AlightAt, 1, 1, 1, []int{1}, impl.StateThere},
		{"one alights at the lowest floor", impl.AlightAt, 1, 1, 0, []int{10}, impl.StateThere},
		{"none alights there", impl.AlightAt, 1, 0, 1, nil, impl.StateThere},
		{"none rides in it", impl.AlightAt, 2, 0, 2, nil, impl.StateThere},
		{"from the other car", impl.AlightAt, 1, 0, 2, []int{4}, impl.StateThere},
		{"from another shaft", impl.AlightAt, 0, 1, 2, []int{5}, impl.StateThere},
		{"several are let out", impl.LetOut, 1, 1, 2, []int{0, 1, 3, 10}, impl.StateOut},
		{"several are let out at another floor", impl.LetOut, 1, 1, 1, []int{0, 1, 3, 10}, impl.StateOut},
		{"several are let out at the lowest floor", impl.LetOut, 1, 1, 0, []int{0, 1, 3, 10}, impl.StateOut},
		{"one is let out, though it is the floor to go to", impl.LetOut, 2, 1, 2, []int{11}, impl.StateOut},
		{"one is let out elsewhere", impl.LetOut, 1, 0, 1, []int{4}, impl.StateOut},
		{"none is let out", impl.LetOut, 0, 0, 1, nil, impl.StateOut},
	}
	for _, r := range rows {
		want := slices.Clone(all.People)
		for _, at := range r.places {
			want[at].State, want[at].At = r.nextState, r.floor
		}
		wantLedger(t, r.name, r.call(h, all, r.shaft, r.car, r.floor), 0, 13, want...)
		wantLedger(t, r.name+", of nobody", r.call(h, impl.Ledger{Next: 7}, r.shaft, r.car, r.floor), 0, 7)
	}
}

func TestDropCountAndLoadByHand(t *testing.T) {
	h := exampleHouse()
	all := people(
		person(2, 'w', 0, 2, 0, 0), person(3, 'r', 0, 1, 0, 0), person(5, 't', 0, 2, 0, 0), person(6, 'o', 1, 2, 0, 0),
		person(8, 'g', 1, 2, 0, 0), person(9, 'w', 0, 2, 2, 1), person(11, 'r', 2, 0, 0, 0), person(12, 'w', 2, 0, 1, 0),
		person(13, 't', 0, 1, 1, 1), person(15, 'r', 0, 1, 0, 1), person(16, 'r', 0, 1, 2, 0), person(17, 't', 1, 0, 1, 1),
	)
	want := slices.Clone(all.People)
	for _, at := range []int{0, 5, 7} {
		want[at].State = impl.StateGone
	}
	wantLedger(t, "people of all states", impl.DropWaiting(h, all), 0, 18, want...)
	wantLedger(t, "again", impl.DropWaiting(h, impl.DropWaiting(h, all).Ledger), 0, 18, want...)
	wantLedger(t, "nobody", impl.DropWaiting(h, impl.Ledger{Next: 4}), 0, 4)
	lists := []struct {
		name string
		got  impl.IntsResult
		want []int64
	}{
		{"count all states", impl.CountPeople(h, all), []int64{3, 4, 3, 1, 1}},
		{"count when they are dropped", impl.CountPeople(h, impl.DropWaiting(h, all).Ledger), []int64{0, 4, 3, 1, 4}},
		{"count nobody", impl.CountPeople(h, impl.Ledger{Next: 1}), []int64{0, 0, 0, 0, 0}},
		{"load of two", impl.LoadOf(h, all, 0, 0), []int64{3, 11}},
		{"load of one", impl.LoadOf(h, all, 0, 1), []int64{15}},
		{"load of one in another shaft", impl.LoadOf(h, all, 2, 0), []int64{16}},
		{"load of none", impl.LoadOf(h, all, 1, 0), nil},
		{"load of none, others are done", impl.LoadOf(h, all, 1, 1), nil},
		{"load of none, another waits", impl.LoadOf(h, all, 2, 1), nil},
		{"load of nobody", impl.LoadOf(h, impl.Ledger{Next: 1}, 0, 0), nil},
	}
	for _, r := range lists {
		if !sameInts(r.got, impl.IntsResult{List: r.want}) {
			t.Errorf("%s: %+v, not %v", r.name, r.got, r.want)
		}
	}
}

// refusesStop holds all functions that ask a floor against one code, with all
// else zero; refusesCar those that ask no more than a car.
func refusesStop(t *testing.T, name string, h impl.House, l impl.Ledger, c numbered, floor, code int64) {
	t.Helper()
	wantCode(t, name+": BoardAt", impl.BoardAt(h, l, c.shaft, c.car, floor), code)
	wantCode(t, name+": AlightAt", impl.AlightAt(h, l, c.shaft, c.car, floor), code)
	wantCode(t, name+": LetOut", impl.LetOut(h, l, c.shaft, c.car, floor), code)
}

func refusesCar(t *testing.T, name string, h impl.House, l impl.Ledger, c numbered, code int64) {
	t.Helper()
	if got := impl.NeedOf(h, l, c.shaft, c.car); got != (impl.NeedResult{Code: code}) {
		t.Errorf("%s: NeedOf is %+v", name, got)
	}
	if got := impl.LoadOf(h, l, c.shaft, c.car); !sameInts(got, impl.IntsResult{Code: code}) {
		t.Errorf("%s: LoadOf is %+v", name, got)
	}
}

// All functions ask house and ledger ahead of all else, right or wrong.
func TestLedgersWithFaultsAreRefused(t *testing.T) {
	h := exampleHouse()
	form := people(person(1, 'w', 1, 1, 0, 0))
	rows := []struct {
		name  string
		house impl.House
		l     impl.Ledger
		code  int64
	}{
		{"a house too near", nearHouse(), impl.Ledger{}, impl.ErrForm},
		{"a house out of its bounds", outHouse(), form, impl.ErrRange},
		{"no house", impl.House{}, impl.Ledger{Next: 1}, impl.ErrRange},
		{"no ledger", h, impl.Ledger{}, impl.ErrRange},
		{"too many people", h, joined(crowd(61, 1, someone(0))), impl.ErrMany},
		{"a person out of form", h, form, impl.ErrForm},
		{"a person out of range", h, people(person(1, 'w', 0, 3, 0, 0)), impl.ErrRange},
		{"too many wait", h, joined(waiting(5, 0, 0)), impl.ErrMany},
		{"too many ride", h, joined(riding(3, 0, 0)), impl.ErrMany},
	}
	for _, r := range rows {
		wantFault(t, r.name, r.house, r.l, r.code)
		wantCode(t, r.name+": DropWaiting", impl.DropWaiting(r.house, r.l), r.code)
		if got := impl.CountPeople(r.house, r.l); !sameInts(got, impl.IntsResult{Code: r.code}) {
			t.Errorf("%s: CountPeople is %+v", r.name, got)
		}
		for _, c := range []numbered{{0, 0}, {3, 0}, {0, -1}, {least, greatest}} {
			refusesCar(t, r.name, r.house, r.l, c, r.code)
			for _, floor := range []int64{0, -1, 3, greatest} {
				refusesStop(t, r.name, r.house, r.l, c, floor, r.code)
				wantCode(t, r.name+": AddCall", impl.AddCall(r.house, r.l, floor, 1, c.shaft, c.car), r.code)
				wantCode(t, r.name+": AddCall", impl.AddCall(r.house, r.l, floor, floor, c.shaft, c.car), r.code)
			}
		}
	}
}

func TestBoundsOfShaftCarAndFloor(t *testing.T) {
	for _, h := range rightHouses() {
		l := joined(waiting(1, 0, 0), riding(1, 2, 1))
		for _, shaft := range append(outside(0, 2), 0, 2) {
			for _, car := range append(outside(0, 1), 0, 1) {
				c := numbered{shaft, car}
				if !c.isRight() {
					refusesCar(t, fmt.Sprint(c), h, l, c, impl.ErrRange)
					refusesStop(t, fmt.Sprint(c), h, l, c, 0, impl.ErrRange)
					refusesStop(t, fmt.Sprint(c), h, l, c, h.Floors, impl.ErrRange)
					wantCode(t, fmt.Sprint(c), impl.AddCall(h, l, 0, 1, shaft, car), impl.ErrRange)
					continue
				}
				for _, floor := range outside(0, h.Floors-1) {
					refusesStop(t, fmt.Sprint(c, floor), h, l, c, floor, impl.ErrRange)
				}
				bookingOf(h).holdsStop(t, l, c, 0)
				bookingOf(h).holdsStop(t, l, c, 1)
				bookingOf(h).holdsStop(t, l, c, h.Floors-1)
			}
		}
	}
}

type ledgerCall struct {
	name string
	call func(impl.House, impl.Ledger) impl.LedgerResult
}

func ledgerCalls() []ledgerCall {
	return []ledgerCall{
		{"AddCall", func(h impl.House, l impl.Ledger) impl.LedgerResult { return impl.AddCall(h, l, 1, 0, 0, 0) }},
		{"BoardAt", func(h impl.House, l impl.Ledger) impl.LedgerResult { return impl.BoardAt(h, l, 0, 0, 1) }},
		{"BoardAt another", func(h impl.House, l impl.Ledger) impl.LedgerResult { return impl.BoardAt(h, l, 0, 1, 0) }},
		{"AlightAt", func(h impl.House, l impl.Ledger) impl.LedgerResult { return impl.AlightAt(h, l, 1, 0, 0) }},
		{"LetOut", func(h impl.House, l impl.Ledger) impl.LedgerResult { return impl.LetOut(h, l, 1, 0, 5) }},
		{"DropWaiting", func(h impl.House, l impl.Ledger) impl.LedgerResult { return impl.DropWaiting(h, l) }},
	}
}

// spoil writes over all of a list, the room behind it as well.
func spoil(list []impl.Person) {
	list = list[:cap(list)]
	for i := range list {
		list[i] = impl.Person{Id: -7, State: 99}
	}
}

// ledgersForMemory are lists with room behind them, which an append would fill:
// nobody, few, 59, and 60 of whom one is forgotten.
func ledgersForMemory() []impl.Ledger {
	full := doneAt(fullLedger(), impl.StateThere, 30)
	ledgers := []impl.Ledger{{Next: 1}, joined(waiting(3, 0, 0), riding(4, 1, 0)), {Next: 500, People: full.People[:59]}, full}
	for i, l := range ledgers {
		roomy := make([]impl.Person, len(l.People), len(l.People)+4)
		copy(roomy, l.People)
		ledgers[i].People = roomy
	}
	return ledgers
}

func TestAnswersShareNoMemory(t *testing.T) {
	h := greatestHouse()
	for _, f := range ledgerCalls() {
		for _, l := range ledgersForMemory() {
			all := l.People[:cap(l.People)]
			before := slices.Clone(all)
			first, second := f.call(h, l), f.call(h, l)
			kept := slices.Clone(second.Ledger.People)
			if !slices.Equal(all, before) {
				t.Errorf("%s of %d people changes its argument", f.name, len(l.People))
			}
			spoil(first.Ledger.People)
			if !slices.Equal(all, before) {
				t.Errorf("%s of %d people: its answer is its argument's memory", f.name, len(l.People))
			}
			spoil(all)
			if first.Code != impl.OK || !slices.Equal(second.Ledger.People, kept) {
				t.Errorf("%s of %d people: its answer shares memory: %+v", f.name, len(l.People), second)
			}
		}
	}
}

func TestListsShareNoMemory(t *testing.T) {
	h := greatestHouse()
	for _, l := range ledgersForMemory() {
		lists := []func() impl.IntsResult{
			func() impl.IntsResult { return impl.CountPeople(h, l) },
			func() impl.IntsResult { return impl.LoadOf(h, l, 1, 0) },
		}
		for i, list := range lists {
			first, second := list(), list()
			kept := slices.Clone(second.List)
			for j := range first.List {
				first.List[j] = -7
			}
			if !slices.Equal(second.List, kept) || !slices.Equal(list().List, kept) {
				t.Errorf("list %d of %d people: %v, then %v", i, len(l.People), kept, second.List)
			}
		}
	}
}

func TestEmptyAndNilAreTheSame(t *testing.T) {
	none := impl.Ledger{Next: 5}
	empty := []impl.Ledger{{Next: 5, People: []impl.Person{}}, {Next: 5, People: make([]impl.Person, 0, 9)}, {Next: 5, People: fullLedger().People[:0]}}
	for _, h := range append(rightHouses(), nearHouse(), outHouse()) {
		for _, l := range empty {
			for _, f := range ledgerCalls() {
				if a, b := f.call(h, none), f.call(h, l); !sameBooked(a, b) {
					t.Errorf("%s of nil is %+v, of an empty list %+v", f.name, a, b)
				}
			}
			if impl.LedgerFault(h, l) != impl.LedgerFault(h, none) || impl.NeedOf(h, l, 0, 0) != impl.NeedOf(h, none, 0, 0) {
				t.Errorf("%+v: LedgerFault or NeedOf of nil is another than of an empty list", h)
			}
			if !sameInts(impl.CountPeople(h, l), impl.CountPeople(h, none)) || !sameInts(impl.LoadOf(h, l, 0, 0), impl.LoadOf(h, none, 0, 0)) {
				t.Errorf("%+v: CountPeople or LoadOf of nil is another than of an empty list", h)
			}
		}
	}
}

// passing are the changes of state that each call may make, as letters.
type passing struct {
	name  string
	pairs []string
}

// holdsPassing holds that nobody who needs something is lost, that nobody is
// doubled or another one, and that states change only as the call may do it.
func holdsPassing(t *testing.T, step passing, old, now impl.Ledger, isNew func(impl.Person) bool) {
	t.Helper()
	known := map[int64]impl.Person{}
	for _, p := range old.People {
		known[p.Id] = p
	}
	for _, p := range now.People {
		was, isKnown := known[p.Id]
		delete(known, p.Id)
		if !isKnown {
			if !isNew(p) {
				t.Fatalf("%s: nobody knows %+v", step.name, p)
			}
			continue
		}
		same := was
		same.State, same.At = p.State, p.At
		change := statesOf([]impl.Person{was}) + statesOf([]impl.Person{p})
		if same != p || was != p && !slices.Contains(step.pairs, change) {
			t.Fatalf("%s: %+v becomes %+v", step.name, was, p)
		}
	}
	for _, p := range known {
		if step.name != "AddCall" || len(known) > 1 || p.State <= impl.StateRides || len(old.People) < 60 {
			t.Fatalf("%s: %+v is lost", step.name, p)
		}
	}
}

// holdsNeeds holds that of every car what is needed is needed by somebody, that
// a need is told where there is one, and that a full car needs to be left.
func holdsNeeds(t *testing.T, h impl.House, l impl.Ledger) {
	t.Helper()
	for _, c := range everyCar() {
		need := impl.NeedOf(h, l, c.shaft, c.car)
		riders, all := who(l, is(1, c.shaft, c.car)), who(l, is(0, c.shaft, c.car), is(1, c.shaft, c.car))
		if need.Code == impl.ErrNone && len(all) == 0 {
			continue
		}
		isNeeded := func(p impl.Person) bool {
			floors := []int64{p.From, p.To}
			return p.Id == need.Id && need.Floor == floors[p.State]
		}
		if len(riders) > int(h.Load) || need.Code != impl.OK || !slices.ContainsFunc(all, isNeeded) {
			t.Fatalf("%+v: NeedOf %+v is %+v, of %+v", h, c, need, all)
		}
		if len(riders) == int(h.Load) && !slices.ContainsFunc(riders, isNeeded) {
			t.Fatalf("%+v: NeedOf %+v, which is full, is %+v, of %+v", h, c, need, all)
		}
	}
}

// lives takes calls and lets cars stop here and there, for long: promise 8.
func lives(t *testing.T, h impl.House, steps int) {
	t.Helper()
	d, l, taken := &dice{state: 19}, impl.Ledger{Next: 1}, int64(0)
	for range steps {
		c := numbered{d.upTo(0, 2), d.upTo(0, 1)}
		floor := d.upTo(0, h.Floors-1)
		step, r := passing{}, impl.LedgerResult{}
		isNew := func(p impl.Person) bool { return false }
		switch d.upTo(0, 40) {
		case 0:
			step, r = passing{"DropWaiting", []string{"wg"}}, impl.DropWaiting(h, l)
		case 1, 2:
			step, r = passing{"LetOut", []string{"ro"}}, impl.LetOut(h, l, c.shaft, c.car, floor)
		case 3, 4, 5, 6, 7, 8, 9, 10:
			step, r = passing{"AlightAt", []string{"rt"}}, impl.AlightAt(h, l, c.shaft, c.car, floor)
		case 11, 12, 13, 14, 15, 16, 17, 18:
			step, r = passing{"BoardAt", []string{"wr"}}, impl.BoardAt(h, l, c.shaft, c.car, floor)
		default:
			caller := impl.Person{Id: l.Next, From: floor, To: (floor + d.upTo(1, h.Floors-1)) % h.Floors, Shaft: c.shaft, Car: c.car}
			step, r = passing{"AddCall", nil}, impl.AddCall(h, l, caller.From, caller.To, c.shaft, c.car)
			isNew = func(p impl.Person) bool { return p == caller && r.Id == p.Id }
			if r.Code == impl.ErrBusy || r.Code == impl.ErrMany {
				continue
			}
			taken++
		}
		if fault := impl.LedgerFault(h, r.Ledger); r.Code != impl.OK || fault != impl.OK || r.Ledger.Next != taken+1 {
			t.Fatalf("%+v: %s of %+v is %+v, with the fault %d", h, step.name, l, r, fault)
		}
		holdsPassing(t, step, l, r.Ledger, isNew)
		holdsNeeds(t, h, r.Ledger)
		l = r.Ledger
	}
	if taken <= 60 || len(l.People) != 60 {
		t.Errorf("%+v: %d calls were taken: nobody was ever forgotten", h, taken)
	}
}

func TestNobodyIsLostOrDoubled(t *testing.T) {
	for _, h := range append(rightHouses(), smallHouse()) {
		lives(t, h, 3000)
	}
}

// ledgerAnswersEverywhere tells answers as texts, since lists are not compared.
func ledgerAnswersEverywhere() []string {
	var list []string
	numbers := []int64{least, -big1, -1, 0, 1, 2, 3, 11, big1, greatest}
	ledgers := []impl.Ledger{{}, {Next: greatest}, {Next: 9, People: make([]impl.Person, 70)}, fullLedger(), people(someone(3))}
	for _, h := range housesOfAllKinds() {
		for _, a := range numbers {
			for _, b := range numbers {
				odd := impl.Person{Id: a, From: b, To: a, Shaft: b, Car: a, State: b, At: a}
				for _, l := range append(ledgers, impl.Ledger{Next: b, People: []impl.Person{odd, odd}}, impl.Ledger{Next: 3, People: []impl.Person{{Id: 1, From: 1, State: a, At: b}}}) {
					list = append(list, fmt.Sprint(
						impl.LedgerFault(h, l), impl.CallFault(h, a, b), impl.AddCall(h, l, a, b, b, a), impl.AddCall(h, l, 0, 1, a, b),
						impl.NeedOf(h, l, a, b), impl.BoardAt(h, l, a, b, a), impl.BoardAt(h, l, 0, 0, b), impl.AlightAt(h, l, 1, 0, a),
						impl.LetOut(h, l, 1, a, b), impl.DropWaiting(h, l), impl.CountPeople(h, l), impl.LoadOf(h, l, a, b)))
				}
			}
		}
	}
	return list
}

// Every call of chapter 7 answers whatever it is given, and the same again when
// other calls stood between.
func TestLedgerAnswersEverywhere(t *testing.T) {
	sameTwice(t, ledgerAnswersEverywhere)
}
