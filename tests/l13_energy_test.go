package tests

import (
	"fmt"
	"testing"

	"loop.example/g00155/impl"
)

// account is what the document tells of energy, worked out the plain way: men
// are weighed one by one, and a run is the list of its cars.
type account struct {
	journey
}

func accountOf(h impl.House) account {
	return account{journeyOf(h)}
}

func allAccounts() []account {
	var list []account
	for _, j := range allJourneys() {
		list = append(list, account{j})
	}
	return append(list, accountOf(driftHouse()), accountOf(softHouse()), accountOf(evenHouse()), accountOf(strongHouse()))
}

// softHouse has brakes so weak that who rises gains by braking.
func softHouse() impl.House {
	h := exampleHouse()
	h.Push, h.Brake, h.Refuge = 5, 5, 400
	return h
}

// evenHouse has brakes at which who rises by 24 neither gains nor loses.
func evenHouse() impl.House {
	h := exampleHouse()
	h.Push, h.Brake = 8, 8
	return h
}

// strongHouse has pushes at which who is pushed down gains more by its speed
// than it loses of its height.
func strongHouse() impl.House {
	h := exampleHouse()
	h.Push, h.Brake = 40, 40
	return h
}

func weightOf(riders int64) int64 {
	sum := int64(800)
	for range riders {
		sum += 75
	}
	return sum
}

func (a account) weighed(riders int64) impl.IntResult {
	switch {
	case a.plan.fault != impl.OK:
		return impl.IntResult{Code: a.plan.fault}
	case riders < 0 || riders > a.house.Load:
		return impl.IntResult{Code: impl.ErrRange}
	}
	return impl.IntResult{Value: weightOf(riders)}
}

func (a account) loadFault(c impl.Car, riders int64) int64 {
	if fault := a.carFault(c); fault != impl.OK {
		return fault
	}
	return a.weighed(riders).Code
}

func (a account) moving(c impl.Car, riders int64) int64 {
	return weightOf(riders) * sizeOf(c.Vel) * sizeOf(c.Vel)
}

func (a account) raised(c impl.Car, riders int64) int64 {
	return weightOf(riders) * (20*c.Pos - 20*a.plan.low)
}

func (a account) has(c impl.Car, riders int64) int64 {
	return a.moving(c, riders) + a.raised(c, riders)
}

// entered adds one step to a book whose car is the one ahead of it.
func (a account) entered(r impl.BookResult, x impl.Command, next impl.Car, riders int64) impl.BookResult {
	was, is := a.has(r.Car, riders), a.has(next, riders)
	isBraking := x.Brake || x.Open && r.Car.Vel != 0
	switch {
	case is > was:
		r.In += is - was
	case isBraking:
		r.Lost += was - is
	default:
		r.Out += was - is
	}
	r.Car = next
	return r
}

func (a account) stepBook(c impl.Car, x impl.Command, drift, riders int64) impl.BookResult {
	for _, fault := range []int64{a.loadFault(c, riders), a.commandFault(x)} {
		if fault != impl.OK {
			return impl.BookResult{Code: fault}
		}
	}
	next := a.step(c, x, drift)
	if next.Code != impl.OK {
		return impl.BookResult{Code: next.Code}
	}
	if next.Car.Pos < a.plan.low || next.Car.Pos > a.plan.high {
		return impl.BookResult{Code: impl.ErrRange}
	}
	return a.entered(impl.BookResult{Car: c}, x, next.Car, riders)
}

func (a account) bookFault(c impl.Car, floor, riders, ticks int64) int64 {
	switch fault := a.loadFault(c, riders); {
	case fault != impl.OK:
		return fault
	case !a.isFloor(floor), ticks < 0 || ticks > 3000:
		return impl.ErrRange
	case c.Door != 0:
		return impl.ErrForm
	}
	return impl.OK
}

// pages are the book of a trip as it is ahead of each tick.
func (a account) pages(way trip, floor, riders int64) []impl.BookResult {
	pages := []impl.BookResult{{Car: way.cars[0]}}
	for i, c := range way.cars[1:] {
		pages = append(pages, a.entered(pages[i], a.command(way.cars[i], floor), c, riders))
	}
	return pages
}

func (a account) holdsEnergy(t *testing.T, c impl.Car, riders int64) {
	t.Helper()
	fault := a.loadFault(c, riders)
	rows := []struct {
		name string
		got  impl.IntResult
		want func(impl.Car, int64) int64
	}{
		{"MovingOf", impl.MovingOf(a.house, c, riders), a.moving},
		{"RaisedOf", impl.RaisedOf(a.house, c, riders), a.raised},
		{"EnergyOf", impl.EnergyOf(a.house, c, riders), a.has},
	}
	for _, r := range rows {
		want := impl.IntResult{Code: fault}
		if fault == impl.OK {
			want.Value = r.want(c, riders)
		}
		if r.got != want {
			t.Fatalf("%s(%+v, %+v, %d) is %+v, not %+v", r.name, a.house, c, riders, r.got, want)
		}
	}
}

func (a account) holdsBookStep(t *testing.T, c impl.Car, x impl.Command, drift, riders int64) {
	t.Helper()
	want := a.stepBook(c, x, drift, riders)
	if got := impl.BookStep(a.house, c, x, drift, riders); got != want {
		t.Fatalf("BookStep(%+v, %+v, %+v, %d, %d) is %+v, not %+v", a.house, c, x, drift, riders, got, want)
	}
}

// holdsBookRun asks for a run that is cut at every edge of its ticks.
func (a account) holdsBookRun(t *testing.T, c impl.Car, floor, riders int64) {
	t.Helper()
	ticks := append(outside(0, 3000), 0, 1, 2, 3000)
	var way trip
	var pages []impl.BookResult
	if a.bookFault(c, floor, riders, 0) == impl.OK {
		way = a.tripOf(c, floor, 3000)
		pages = a.pages(way, floor, riders)
		ticks = append(ticks, around(int64(len(pages))-1)...)
	}
	for _, n := range ticks {
		want := impl.BookResult{Code: a.bookFault(c, floor, riders, n)}
		if want.Code == impl.OK {
			if run := way.run(n); run.Code != impl.OK {
				want.Code = run.Code
			} else {
				want = pages[run.Ticks]
			}
		}
		if got := impl.BookRun(a.house, c, floor, riders, n); got != want {
			t.Fatalf("BookRun(%+v, %+v, %d, %d, %d) is %+v, not %+v", a.house, c, floor, riders, n, got, want)
		}
	}
}

func (a account) edgeRiders() []int64 {
	return append(outside(0, a.house.Load), 0, 1, a.house.Load-1, a.house.Load)
}

func TestMassesByHand(t *testing.T) {
	if impl.CarMass != 800 || impl.ManMass != 75 {
		t.Error("the masses of a car and of a man")
	}
	rows := []struct {
		load, riders int64
		want         impl.IntResult
	}{
		{2, -1, impl.IntResult{Code: impl.ErrRange}},
		{2, 0, impl.IntResult{Value: 800}},
		{2, 1, impl.IntResult{Value: 875}},
		{2, 2, impl.IntResult{Value: 950}},
		{2, 3, impl.IntResult{Code: impl.ErrRange}},
		{1, 0, impl.IntResult{Value: 800}},
		{1, 1, impl.IntResult{Value: 875}},
		{1, 2, impl.IntResult{Code: impl.ErrRange}},
		{20, 19, impl.IntResult{Value: 2225}},
		{20, 20, impl.IntResult{Value: 2300}},
		{20, 21, impl.IntResult{Code: impl.ErrRange}},
		{20, least, impl.IntResult{Code: impl.ErrRange}},
		{20, greatest, impl.IntResult{Code: impl.ErrRange}},
	}
	for _, r := range rows {
		h := exampleHouse()
		h.Load = r.load
		if got := impl.MassOf(h, r.riders); got != r.want {
			t.Errorf("MassOf with a load of %d and %d riders is %+v, not %+v", r.load, r.riders, got, r.want)
		}
	}
	for _, a := range allAccounts() {
		for _, riders := range a.edgeRiders() {
			if got, want := impl.MassOf(a.house, riders), a.weighed(riders); got != want {
				t.Errorf("MassOf(%+v, %d) is %+v, not %+v", a.house, riders, got, want)
			}
		}
	}
}

// The example's LowEnd is -452 and its HighEnd 1252.
func TestEnergiesByHand(t *testing.T) {
	h := exampleHouse()
	rows := []struct {
		name           string
		car            impl.Car
		riders         int64
		moving, raised int64
	}{
		{"stands at LowEnd", impl.Car{Pos: -452}, 0, 0, 0},
		{"stands at LowEnd, full", impl.Car{Pos: -452}, 2, 0, 0},
		{"one above LowEnd", impl.Car{Pos: -451}, 0, 0, 16000},
		{"one above LowEnd, one rides", impl.Car{Pos: -451}, 1, 0, 17500},
		{"stands at floor 0", impl.Car{}, 0, 0, 7232000},
		{"stands at floor 0, full", impl.Car{}, 2, 0, 8588000},
		{"its door is open", impl.Car{Door: 2}, 0, 0, 7232000},
		{"its door is on its way", impl.Car{Door: 1}, 2, 0, 8588000},
		{"stands at HighEnd", impl.Car{Pos: 1252}, 0, 0, 27264000},
		{"stands at HighEnd, one rides", impl.Car{Pos: 1252}, 1, 0, 29820000},
		{"stands at HighEnd, full", impl.Car{Pos: 1252}, 2, 0, 32376000},
		{"rises by one", impl.Car{Pos: -452, Vel: 1}, 0, 800, 0},
		{"sinks by one", impl.Car{Pos: -452, Vel: -1}, 0, 800, 0},
		{"rises by ten", impl.Car{Vel: 10}, 0, 80000, 7232000},
		{"sinks by ten", impl.Car{Vel: -10}, 0, 80000, 7232000},
		{"at full speed up", impl.Car{Pos: -452, Vel: 50}, 0, 2000000, 0},
		{"at full speed down", impl.Car{Pos: -452, Vel: -50}, 0, 2000000, 0},
		{"at full speed up, full", impl.Car{Pos: 1252, Vel: 50}, 2, 2375000, 32376000},
		{"at full speed down, full", impl.Car{Pos: 1252, Vel: -50}, 2, 2375000, 32376000},
		{"at full speed, one rides", impl.Car{Vel: -50}, 1, 2187500, 7910000},
	}
	for _, r := range rows {
		wantInt(t, r.name+": MovingOf", impl.MovingOf(h, r.car, r.riders), r.moving)
		wantInt(t, r.name+": RaisedOf", impl.RaisedOf(h, r.car, r.riders), r.raised)
		wantInt(t, r.name+": EnergyOf", impl.EnergyOf(h, r.car, r.riders), r.moving+r.raised)
	}
	// The most that there is: from -20550 to 240550, the heaviest and fastest.
	great := greatestHouse()
	wantInt(t, "the greatest MovingOf", impl.MovingOf(great, impl.Car{Vel: -500}, 20), 575000000)
	wantInt(t, "the greatest RaisedOf", impl.RaisedOf(great, impl.Car{Pos: 240550}, 20), 12010600000)
	wantInt(t, "the greatest EnergyOf", impl.EnergyOf(great, impl.Car{Pos: 240550, Vel: 500}, 20), 12585600000)
}

// refusesLoad asks that all that are given a car and riders have that code, and
// all else in their answers is zero.
func refusesLoad(t *testing.T, name string, h impl.House, c impl.Car, riders int64, code int64) {
	t.Helper()
	wantIntCode(t, name+": MovingOf", impl.MovingOf(h, c, riders), code)
	wantIntCode(t, name+": RaisedOf", impl.RaisedOf(h, c, riders), code)
	wantIntCode(t, name+": EnergyOf", impl.EnergyOf(h, c, riders), code)
	for _, x := range []impl.Command{{}, {Brake: true}, {Brake: true, Open: true}, {Push: h.Push + 1}} {
		for _, drift := range []int64{0, h.Drift, h.Drift + 1} {
			wantBook(t, name+": BookStep", impl.BookStep(h, c, x, drift, riders), impl.BookResult{Code: code})
		}
	}
	for _, floor := range []int64{-2, 0, h.Floors + 1} {
		for _, ticks := range []int64{-1, 0, 9, 3001} {
			wantBook(t, name+": BookRun", impl.BookRun(h, c, floor, riders, ticks), impl.BookResult{Code: code})
		}
	}
}

func wantBook(t *testing.T, name string, got, want impl.BookResult) {
	t.Helper()
	if got != want {
		t.Errorf("%s: %+v, not %+v", name, got, want)
	}
}

// The house goes ahead of the car, and the car ahead of the riders, whatever
// else there is.
func TestEnergyAsksInOrder(t *testing.T) {
	right, farCar, formCar := impl.Car{Pos: 5}, impl.Car{Pos: 1253}, impl.Car{Vel: 1, Door: 1}
	rows := []struct {
		name   string
		house  impl.House
		car    impl.Car
		riders int64
		want   int64
	}{
		{"a near house", nearHouse(), right, 0, impl.ErrForm},
		{"a near house ahead of a car beyond", nearHouse(), farCar, 0, impl.ErrForm},
		{"a near house ahead of riders", nearHouse(), right, 3, impl.ErrForm},
		{"a near house ahead of no riders", nearHouse(), farCar, -1, impl.ErrForm},
		{"a house out of range", outHouse(), right, 0, impl.ErrRange},
		{"a house out of range ahead of a car that moves, its door open", outHouse(), formCar, 0, impl.ErrRange},
		{"no house", impl.House{}, impl.Car{}, 0, impl.ErrRange},
		{"below LowEnd", exampleHouse(), impl.Car{Pos: -453}, 0, impl.ErrRange},
		{"above HighEnd", exampleHouse(), farCar, 0, impl.ErrRange},
		{"too fast up", exampleHouse(), impl.Car{Vel: 51}, 0, impl.ErrRange},
		{"too fast down", exampleHouse(), impl.Car{Vel: -51}, 0, impl.ErrRange},
		{"a door below 0", exampleHouse(), impl.Car{Door: -1}, 0, impl.ErrRange},
		{"a door too far", exampleHouse(), impl.Car{Door: 3}, 0, impl.ErrRange},
		{"a car beyond, full", exampleHouse(), farCar, 2, impl.ErrRange},
		{"the least place", exampleHouse(), impl.Car{Pos: least}, 0, impl.ErrRange},
		{"the greatest speed", exampleHouse(), impl.Car{Vel: greatest}, 0, impl.ErrRange},
		{"a car that moves, its door open", exampleHouse(), formCar, 0, impl.ErrForm},
		{"that, full", exampleHouse(), formCar, 2, impl.ErrForm},
		{"that, ahead of too few riders", exampleHouse(), formCar, -1, impl.ErrForm},
		{"that, ahead of too many riders", exampleHouse(), formCar, 3, impl.ErrForm},
		{"too few riders", exampleHouse(), right, -1, impl.ErrRange},
		{"too many riders", exampleHouse(), right, 3, impl.ErrRange},
		{"the least riders", exampleHouse(), right, least, impl.ErrRange},
		{"the most riders", exampleHouse(), right, greatest, impl.ErrRange},
		{"too many riders ahead of a door", exampleHouse(), impl.Car{Door: 1}, 3, impl.ErrRange},
	}
	for _, r := range rows {
		refusesLoad(t, r.name, r.house, r.car, r.riders, r.want)
	}
	for _, riders := range []int64{least, -1, 0, 2, 3, greatest} {
		wantIntCode(t, "MassOf in a near house", impl.MassOf(nearHouse(), riders), impl.ErrForm)
		wantIntCode(t, "MassOf in a house out of range", impl.MassOf(outHouse(), riders), impl.ErrRange)
		wantIntCode(t, "MassOf in no house", impl.MassOf(impl.House{}, riders), impl.ErrRange)
	}
}

func TestEnergiesOfAllEdges(t *testing.T) {
	for _, a := range allAccounts() {
		for _, riders := range a.edgeRiders() {
			for _, c := range a.fewCars() {
				a.holdsEnergy(t, c, riders)
			}
			for _, pos := range a.edgePlaces() {
				for _, vel := range a.edgeSpeeds() {
					a.holdsEnergy(t, impl.Car{Pos: pos, Vel: vel}, riders)
				}
			}
		}
	}
}

// In the rows the change is told as the mass times a number: 800 for an empty
// car, 950 for a full one.
func TestBookedStepsByHand(t *testing.T) {
	open, brake, none := impl.Command{Open: true}, impl.Command{Brake: true}, impl.Command{}
	rows := []struct {
		name    string
		house   impl.House
		car     impl.Car
		command impl.Command
		drift   int64
		riders  int64
		want    impl.BookResult
	}{
		{"brakes and stands", exampleHouse(), impl.Car{Pos: -452, Vel: 10}, brake, 0, 0, impl.BookResult{Lost: 80000, Car: impl.Car{Pos: -452}}},
		{"brakes and stands, slow", exampleHouse(), impl.Car{Vel: 4}, brake, 0, 0, impl.BookResult{Lost: 12800, Car: impl.Car{}}},
		{"brakes and stands, slow, down", exampleHouse(), impl.Car{Vel: -4}, brake, 0, 0, impl.BookResult{Lost: 12800, Car: impl.Car{}}},
		{"brakes up", exampleHouse(), impl.Car{Vel: 30}, brake, 0, 0, impl.BookResult{Lost: 80000, Car: impl.Car{Pos: 20, Vel: 20}}},
		{"brakes up, full", exampleHouse(), impl.Car{Vel: 30}, brake, 0, 2, impl.BookResult{Lost: 95000, Car: impl.Car{Pos: 20, Vel: 20}}},
		{"brakes down", exampleHouse(), impl.Car{Vel: -30}, brake, 0, 0, impl.BookResult{Lost: 720000, Car: impl.Car{Pos: -20, Vel: -20}}},
		{"brakes down, full", exampleHouse(), impl.Car{Vel: -30}, brake, 0, 2, impl.BookResult{Lost: 855000, Car: impl.Car{Pos: -20, Vel: -20}}},
		{"brakes and stands already", exampleHouse(), impl.Car{Pos: 7}, brake, 0, 2, impl.BookResult{Car: impl.Car{Pos: 7}}},
		{"brakes, and does not drift", driftHouse(), impl.Car{Vel: 30}, brake, 4, 0, impl.BookResult{Lost: 80000, Car: impl.Car{Pos: 20, Vel: 20}}},
		{"gains as it brakes", softHouse(), impl.Car{Vel: 30}, brake, 0, 0, impl.BookResult{In: 180000, Car: impl.Car{Pos: 25, Vel: 25}}},
		{"gains as it brakes, full", softHouse(), impl.Car{Vel: 30}, brake, 0, 2, impl.BookResult{In: 213750, Car: impl.Car{Pos: 25, Vel: 25}}},
		{"just gains as it brakes", softHouse(), impl.Car{Vel: 8}, brake, 0, 0, impl.BookResult{In: 4000, Car: impl.Car{Pos: 3, Vel: 3}}},
		{"just loses as it brakes", softHouse(), impl.Car{Vel: 7}, brake, 0, 0, impl.BookResult{Lost: 4000, Car: impl.Car{Pos: 2, Vel: 2}}},
		{"soft brakes down", softHouse(), impl.Car{Vel: -30}, brake, 0, 0, impl.BookResult{Lost: 620000, Car: impl.Car{Pos: -25, Vel: -25}}},
		{"the same as it brakes", evenHouse(), impl.Car{Vel: 24}, brake, 0, 2, impl.BookResult{Car: impl.Car{Pos: 16, Vel: 16}}},
		{"a little more as it brakes", evenHouse(), impl.Car{Vel: 25}, brake, 0, 0, impl.BookResult{In: 3200, Car: impl.Car{Pos: 17, Vel: 17}}},
		{"a little less as it brakes", evenHouse(), impl.Car{Vel: 23}, brake, 0, 0, impl.BookResult{Lost: 3200, Car: impl.Car{Pos: 15, Vel: 15}}},
		{"opens while it rises", exampleHouse(), impl.Car{Vel: 30}, open, 0, 0, impl.BookResult{Lost: 80000, Car: impl.Car{Pos: 20, Vel: 20}}},
		{"opens while it sinks", exampleHouse(), impl.Car{Vel: -30}, open, 0, 0, impl.BookResult{Lost: 720000, Car: impl.Car{Pos: -20, Vel: -20}}},
		{"opens as it comes to stand", exampleHouse(), impl.Car{Vel: 10}, open, 0, 0, impl.BookResult{Lost: 80000, Car: impl.Car{}}},
		{"opens as it comes to stand, down", exampleHouse(), impl.Car{Vel: -10}, open, 0, 0, impl.BookResult{Lost: 80000, Car: impl.Car{}}},
		{"opens and gains", softHouse(), impl.Car{Vel: 30}, open, 0, 0, impl.BookResult{In: 180000, Car: impl.Car{Pos: 25, Vel: 25}}},
		{"opens and has the same", evenHouse(), impl.Car{Vel: 24}, open, 0, 0, impl.BookResult{Car: impl.Car{Pos: 16, Vel: 16}}},
		{"opens while it stands", exampleHouse(), impl.Car{Pos: 5}, open, 0, 2, impl.BookResult{Car: impl.Car{Pos: 5, Door: 1}}},
		{"opens on", exampleHouse(), impl.Car{Pos: 5, Door: 1}, open, 0, 2, impl.BookResult{Car: impl.Car{Pos: 5, Door: 2}}},
		{"is open and stays so", driftHouse(), impl.Car{Pos: 5, Door: 2}, open, 4, 0, impl.BookResult{Car: impl.Car{Pos: 5, Door: 2}}},
		{"shuts", driftHouse(), impl.Car{Pos: 5, Door: 2}, none, 4, 0, impl.BookResult{Car: impl.Car{Pos: 5, Door: 1}}},
		{"shuts as it is told to brake", exampleHouse(), impl.Car{Pos: 5, Door: 1}, brake, 0, 0, impl.BookResult{Car: impl.Car{Pos: 5}}},
		{"shuts as it is pushed", exampleHouse(), impl.Car{Pos: 5, Door: 1}, impl.Command{Push: 10}, 0, 2, impl.BookResult{Car: impl.Car{Pos: 5}}},
		{"pushed up as it stands", exampleHouse(), impl.Car{}, impl.Command{Push: 10}, 0, 0, impl.BookResult{In: 240000, Car: impl.Car{Pos: 10, Vel: 10}}},
		{"pushed up as it stands, full", exampleHouse(), impl.Car{}, impl.Command{Push: 10}, 0, 2, impl.BookResult{In: 285000, Car: impl.Car{Pos: 10, Vel: 10}}},
		{"pushed up as it rises", exampleHouse(), impl.Car{Vel: 30}, impl.Command{Push: 10}, 0, 0, impl.BookResult{In: 1200000, Car: impl.Car{Pos: 40, Vel: 40}}},
		{"pushed up at full speed", exampleHouse(), impl.Car{Vel: 50}, impl.Command{Push: 10}, 0, 0, impl.BookResult{In: 800000, Car: impl.Car{Pos: 50, Vel: 50}}},
		{"pushed up as it sinks", exampleHouse(), impl.Car{Vel: -30}, impl.Command{Push: 10}, 0, 0, impl.BookResult{Out: 720000, Car: impl.Car{Pos: -20, Vel: -20}}},
		{"pushed up as it sinks, full", exampleHouse(), impl.Car{Vel: -30}, impl.Command{Push: 10}, 0, 2, impl.BookResult{Out: 855000, Car: impl.Car{Pos: -20, Vel: -20}}},
		{"pushed up until it stands", exampleHouse(), impl.Car{Vel: -10}, impl.Command{Push: 10}, 0, 0, impl.BookResult{Out: 80000, Car: impl.Car{}}},
		{"pushed from down to up", exampleHouse(), impl.Car{Vel: -5}, impl.Command{Push: 10}, 0, 0, impl.BookResult{In: 80000, Car: impl.Car{Pos: 5, Vel: 5}}},
		{"pushed from down to up, the same", strongHouse(), impl.Car{Vel: -24}, impl.Command{Push: 40}, 0, 2, impl.BookResult{Car: impl.Car{Pos: 16, Vel: 16}}},
		{"pushed from down to up, a little less", strongHouse(), impl.Car{Vel: -25}, impl.Command{Push: 40}, 0, 0, impl.BookResult{Out: 80000, Car: impl.Car{Pos: 15, Vel: 15}}},
		{"pushed down as it stands", exampleHouse(), impl.Car{}, impl.Command{Push: -10}, 0, 0, impl.BookResult{Out: 80000, Car: impl.Car{Pos: -10, Vel: -10}}},
		{"pushed down as it sinks", exampleHouse(), impl.Car{Vel: -30}, impl.Command{Push: -10}, 0, 0, impl.BookResult{Out: 80000, Car: impl.Car{Pos: -40, Vel: -40}}},
		{"pushed down at full speed", exampleHouse(), impl.Car{Vel: -50}, impl.Command{Push: -10}, 0, 0, impl.BookResult{Out: 800000, Car: impl.Car{Pos: -50, Vel: -50}}},
		{"pushed down as it rises", exampleHouse(), impl.Car{Vel: 20}, impl.Command{Push: -10}, 0, 0, impl.BookResult{Out: 80000, Car: impl.Car{Pos: 10, Vel: 10}}},
		{"pushed down until it stands", exampleHouse(), impl.Car{Vel: 10}, impl.Command{Push: -10}, 0, 2, impl.BookResult{Out: 95000, Car: impl.Car{}}},
		{"pushed down a little as it rises", exampleHouse(), impl.Car{Vel: 30}, impl.Command{Push: -5}, 0, 0, impl.BookResult{In: 180000, Car: impl.Car{Pos: 25, Vel: 25}}},
		{"pushed down as it rises, the same", exampleHouse(), impl.Car{Vel: 24}, impl.Command{Push: -8}, 0, 0, impl.BookResult{Car: impl.Car{Pos: 16, Vel: 16}}},
		{"pushed from up to down", exampleHouse(), impl.Car{Vel: 5}, impl.Command{Push: -10}, 0, 0, impl.BookResult{Out: 80000, Car: impl.Car{Pos: -5, Vel: -5}}},
		{"pushed down so far that it gains", strongHouse(), impl.Car{}, impl.Command{Push: -40}, 0, 0, impl.BookResult{In: 640000, Car: impl.Car{Pos: -40, Vel: -40}}},
		{"pushed down on, and gains", strongHouse(), impl.Car{Vel: -10}, impl.Command{Push: -40}, 0, 0, impl.BookResult{In: 1120000, Car: impl.Car{Pos: -50, Vel: -50}}},
		{"pushed down just as far as it falls", strongHouse(), impl.Car{}, impl.Command{Push: -20}, 0, 2, impl.BookResult{Car: impl.Car{Pos: -20, Vel: -20}}},
		{"let go as it rises", exampleHouse(), impl.Car{Vel: 30}, none, 0, 0, impl.BookResult{In: 480000, Car: impl.Car{Pos: 30, Vel: 30}}},
		{"let go as it sinks", exampleHouse(), impl.Car{Vel: -30}, none, 0, 0, impl.BookResult{Out: 480000, Car: impl.Car{Pos: -30, Vel: -30}}},
		{"let go as it stands", exampleHouse(), impl.Car{Pos: 7}, none, 0, 0, impl.BookResult{Car: impl.Car{Pos: 7}}},
		{"drifts up", driftHouse(), impl.Car{}, none, 4, 0, impl.BookResult{In: 76800, Car: impl.Car{Pos: 4, Vel: 4}}},
		{"drifts down", driftHouse(), impl.Car{}, none, -4, 0, impl.BookResult{Out: 51200, Car: impl.Car{Pos: -4, Vel: -4}}},
		{"pushed, and drifts", driftHouse(), impl.Car{}, impl.Command{Push: 10}, -4, 0, impl.BookResult{In: 124800, Car: impl.Car{Pos: 6, Vel: 6}}},
	}
	for _, r := range rows {
		wantBook(t, r.name, impl.BookStep(r.house, r.car, r.command, r.drift, r.riders), r.want)
	}
}

// Steps that leave the car just at an end of the shaft, and those one beyond.
func TestBookedStepsAtTheEnds(t *testing.T) {
	h := driftHouse()
	open, brake, none := impl.Command{Open: true}, impl.Command{Brake: true}, impl.Command{}
	beyond := impl.BookResult{Code: impl.ErrRange}
	rows := []struct {
		name    string
		car     impl.Car
		command impl.Command
		drift   int64
		want    impl.BookResult
	}{
		{"just at HighEnd", impl.Car{Pos: 1202, Vel: 50}, none, 0, impl.BookResult{In: 800000, Car: impl.Car{Pos: 1252, Vel: 50}}},
		{"beyond HighEnd", impl.Car{Pos: 1203, Vel: 50}, none, 0, beyond},
		{"pushed just to HighEnd", impl.Car{Pos: 1242}, impl.Command{Push: 10}, 0, impl.BookResult{In: 240000, Car: impl.Car{Pos: 1252, Vel: 10}}},
		{"pushed beyond HighEnd", impl.Car{Pos: 1243}, impl.Command{Push: 10}, 0, beyond},
		{"brakes just at HighEnd", impl.Car{Pos: 1212, Vel: 50}, brake, 0, impl.BookResult{Lost: 80000, Car: impl.Car{Pos: 1252, Vel: 40}}},
		{"brakes beyond HighEnd", impl.Car{Pos: 1213, Vel: 50}, brake, 0, beyond},
		{"opens just at HighEnd", impl.Car{Pos: 1212, Vel: 50}, open, 0, impl.BookResult{Lost: 80000, Car: impl.Car{Pos: 1252, Vel: 40}}},
		{"opens beyond HighEnd", impl.Car{Pos: 1213, Vel: 50}, open, 0, beyond},
		{"drifts just to HighEnd", impl.Car{Pos: 1248}, none, 4, impl.BookResult{In: 76800, Car: impl.Car{Pos: 1252, Vel: 4}}},
		{"drifts beyond HighEnd", impl.Car{Pos: 1249}, none, 4, beyond},
		{"drifts back from beyond HighEnd", impl.Car{Pos: 1246}, impl.Command{Push: 10}, -4, impl.BookResult{In: 124800, Car: impl.Car{Pos: 1252, Vel: 6}}},
		{"stands at HighEnd", impl.Car{Pos: 1252}, brake, 4, impl.BookResult{Car: impl.Car{Pos: 1252}}},
		{"opens as it stands at HighEnd", impl.Car{Pos: 1252}, open, 4, impl.BookResult{Car: impl.Car{Pos: 1252, Door: 1}}},
		{"shuts at HighEnd as it is pushed", impl.Car{Pos: 1252, Door: 1}, impl.Command{Push: 10}, 4, impl.BookResult{Car: impl.Car{Pos: 1252}}},
		{"goes away from HighEnd", impl.Car{Pos: 1252}, impl.Command{Push: -10}, 0, impl.BookResult{Out: 80000, Car: impl.Car{Pos: 1242, Vel: -10}}},
		{"just at LowEnd", impl.Car{Pos: -402, Vel: -50}, none, 0, impl.BookResult{Out: 800000, Car: impl.Car{Pos: -452, Vel: -50}}},
		{"beyond LowEnd", impl.Car{Pos: -403, Vel: -50}, none, 0, beyond},
		{"pushed just to LowEnd", impl.Car{Pos: -442}, impl.Command{Push: -10}, 0, impl.BookResult{Out: 80000, Car: impl.Car{Pos: -452, Vel: -10}}},
		{"pushed beyond LowEnd", impl.Car{Pos: -443}, impl.Command{Push: -10}, 0, beyond},
		{"brakes just at LowEnd", impl.Car{Pos: -412, Vel: -50}, brake, 0, impl.BookResult{Lost: 1360000, Car: impl.Car{Pos: -452, Vel: -40}}},
		{"brakes beyond LowEnd", impl.Car{Pos: -413, Vel: -50}, brake, 0, beyond},
		{"opens beyond LowEnd", impl.Car{Pos: -413, Vel: -50}, open, 0, beyond},
		{"drifts just to LowEnd", impl.Car{Pos: -448}, none, -4, impl.BookResult{Out: 51200, Car: impl.Car{Pos: -452, Vel: -4}}},
		{"drifts beyond LowEnd", impl.Car{Pos: -449}, none, -4, beyond},
		{"stands at LowEnd", impl.Car{Pos: -452}, brake, -4, impl.BookResult{Car: impl.Car{Pos: -452}}},
		{"opens as it stands at LowEnd", impl.Car{Pos: -452}, open, -4, impl.BookResult{Car: impl.Car{Pos: -452, Door: 1}}},
		{"goes away from LowEnd", impl.Car{Pos: -452}, impl.Command{Push: 10}, 0, impl.BookResult{In: 240000, Car: impl.Car{Pos: -442, Vel: 10}}},
	}
	for _, r := range rows {
		wantBook(t, r.name, impl.BookStep(h, r.car, r.command, r.drift, 0), r.want)
	}
}

// The car and the riders go ahead of the command, and that ahead of the drift
// and of where the step ends.
func TestBookedStepsAskInOrder(t *testing.T) {
	formCar, right, last := impl.Car{Vel: 1, Door: 1}, impl.Car{Pos: 5}, impl.Car{Pos: 1252, Vel: 50}
	both, farPush, none := impl.Command{Brake: true, Open: true}, impl.Command{Push: 11}, impl.Command{}
	rows := []struct {
		name    string
		car     impl.Car
		command impl.Command
		drift   int64
		riders  int64
		want    int64
	}{
		{"the car ahead of the riders", formCar, none, 0, 3, impl.ErrForm},
		{"the car ahead of the command", formCar, farPush, 0, 0, impl.ErrForm},
		{"the car ahead of the drift", formCar, none, 5, 0, impl.ErrForm},
		{"the riders ahead of the command", right, both, 0, 3, impl.ErrRange},
		{"too few riders ahead of the command", right, both, 0, -1, impl.ErrRange},
		{"Brake and Open", right, both, 0, 2, impl.ErrForm},
		{"Brake and a push", right, impl.Command{Push: 1, Brake: true}, 0, 0, impl.ErrForm},
		{"Open and a push", right, impl.Command{Push: -1, Open: true}, 0, 0, impl.ErrForm},
		{"all three", right, impl.Command{Push: 1, Brake: true, Open: true}, 0, 0, impl.ErrForm},
		{"a push too far up", right, farPush, 0, 0, impl.ErrRange},
		{"a push too far down", right, impl.Command{Push: -11}, 0, 0, impl.ErrRange},
		{"a push too far goes ahead of Brake", right, impl.Command{Push: 11, Brake: true}, 0, 0, impl.ErrRange},
		{"the least push", right, impl.Command{Push: least}, 0, 0, impl.ErrRange},
		{"the greatest push", right, impl.Command{Push: greatest}, 0, 0, impl.ErrRange},
		{"the command ahead of the drift", right, both, 5, 0, impl.ErrForm},
		{"the command ahead of the least drift", right, both, least, 0, impl.ErrForm},
		{"the command ahead of where it ends", last, both, 0, 0, impl.ErrForm},
		{"a drift too far down", right, none, -5, 0, impl.ErrRange},
		{"a drift just as far down", right, none, -4, 0, impl.OK},
		{"no drift", right, none, 0, 0, impl.OK},
		{"a drift just as far up", right, none, 4, 0, impl.OK},
		{"a drift too far up", right, none, 5, 0, impl.ErrRange},
		{"a drift too far, and it brakes", right, impl.Command{Brake: true}, 5, 0, impl.ErrRange},
		{"a drift too far, and its door is open", impl.Car{Door: 2}, none, -5, 0, impl.ErrRange},
		{"the least drift", right, none, least, 0, impl.ErrRange},
		{"the greatest drift", right, none, greatest, 0, impl.ErrRange},
		{"the greatest drift at full speed", impl.Car{Vel: 50}, impl.Command{Push: 10}, greatest, 2, impl.ErrRange},
		{"where it ends", last, none, 0, 0, impl.ErrRange},
		{"where it ends, and a drift too far", last, none, 5, 0, impl.ErrRange},
	}
	for _, r := range rows {
		got := impl.BookStep(driftHouse(), r.car, r.command, r.drift, r.riders)
		if got.Code != r.want || got.Code != impl.OK && got != (impl.BookResult{Code: r.want}) {
			t.Errorf("%s: %+v, not %d", r.name, got, r.want)
		}
	}
}

func TestBookedStepsOfAllEdges(t *testing.T) {
	for _, a := range allAccounts() {
		for _, x := range a.edgeCommands() {
			for _, c := range a.fewCars() {
				for _, drift := range a.edgeDrifts() {
					for _, riders := range []int64{-1, 0, a.house.Load, a.house.Load + 1} {
						a.holdsBookStep(t, c, x, drift, riders)
					}
				}
			}
		}
	}
}

// Every speed, under every kind of command, away from the ends and at them.
func TestBookedStepsAtEverySpeed(t *testing.T) {
	for _, a := range allAccounts() {
		h := a.house
		commands := []impl.Command{{}, {Brake: true}, {Open: true}, {Push: h.Push}, {Push: -h.Push}, {Push: 1}, {Push: -1}}
		for vel := -h.Speed - 1; vel <= h.Speed+1; vel++ {
			for _, x := range commands {
				for _, drift := range []int64{-h.Drift, 0, h.Drift} {
					for _, pos := range []int64{a.plan.low, a.plan.low - vel, 1, a.plan.high - vel, a.plan.high} {
						a.holdsBookStep(t, impl.Car{Pos: pos, Vel: vel}, x, drift, h.Load)
					}
				}
			}
		}
	}
}

// From floor 0 to 1 it gains 3, 7, 11, 15, 19 hundred, three times 10, then
// loses one hundred in each of four ticks by its push, and one by its brake. On
// its way down it loses one hundred in each of five ticks, three times 10, 17,
// 13, 9, 5, and one by its brake. All of it is times the mass.
func TestBookedRunsByHand(t *testing.T) {
	up, full := impl.BookResult{In: 6800000, Out: 320000, Lost: 80000}, impl.BookResult{In: 8075000, Out: 380000, Lost: 95000}
	down := impl.BookResult{Out: 6320000, Lost: 80000}
	rows := []struct {
		name   string
		car    impl.Car
		floor  int64
		riders int64
		ticks  int64
		want   impl.BookResult
		then   impl.Car
	}{
		{"no tick", impl.Car{Pos: 7, Vel: 9}, 1, 0, 0, impl.BookResult{}, impl.Car{Pos: 7, Vel: 9}},
		{"one tick", impl.Car{}, 1, 0, 1, impl.BookResult{In: 240000}, impl.Car{Pos: 10, Vel: 10}},
		{"one tick, full", impl.Car{}, 1, 2, 1, impl.BookResult{In: 285000}, impl.Car{Pos: 10, Vel: 10}},
		{"two ticks", impl.Car{}, 1, 0, 2, impl.BookResult{In: 800000}, impl.Car{Pos: 30, Vel: 20}},
		{"at full speed", impl.Car{}, 1, 0, 8, impl.BookResult{In: 6800000}, impl.Car{Pos: 300, Vel: 50}},
		{"slower by now", impl.Car{}, 1, 0, 9, impl.BookResult{In: 6800000, Out: 80000}, impl.Car{Pos: 340, Vel: 40}},
		{"one tick fewer than it takes", impl.Car{}, 1, 0, 12, impl.BookResult{In: 6800000, Out: 320000}, impl.Car{Pos: 400, Vel: 10}},
		{"just as many", impl.Car{}, 1, 0, 13, up, impl.Car{Pos: 400}},
		{"one more", impl.Car{}, 1, 0, 14, up, impl.Car{Pos: 400}},
		{"MaxTicks", impl.Car{}, 1, 0, 3000, up, impl.Car{Pos: 400}},
		{"full", impl.Car{}, 1, 2, 3000, full, impl.Car{Pos: 400}},
		{"from the refuge below", impl.Car{Pos: -300}, 0, 0, 3000, impl.BookResult{In: 5200000, Out: 320000, Lost: 80000}, impl.Car{}},
		{"to the refuge above", impl.Car{Pos: 800}, 3, 0, 3000, impl.BookResult{In: 5200000, Out: 320000, Lost: 80000}, impl.Car{Pos: 1100}},
		{"to the refuge below", impl.Car{}, -1, 0, 3000, impl.BookResult{Out: 4720000, Lost: 80000}, impl.Car{Pos: -300}},
		{"down", impl.Car{Pos: 800}, 1, 0, 3000, down, impl.Car{Pos: 400}},
		{"down, one tick", impl.Car{Pos: 800}, 1, 0, 1, impl.BookResult{Out: 80000}, impl.Car{Pos: 790, Vel: -10}},
		{"down, one tick fewer than it takes", impl.Car{Pos: 800}, 1, 0, 12, impl.BookResult{Out: 6320000}, impl.Car{Pos: 400, Vel: -10}},
		{"there at once", impl.Car{Pos: 398}, 1, 2, 3000, impl.BookResult{}, impl.Car{Pos: 398}},
		{"there at once, from above", impl.Car{Pos: 402}, 1, 0, 1, impl.BookResult{}, impl.Car{Pos: 402}},
		{"there in no tick", impl.Car{Pos: 400}, 1, 0, 0, impl.BookResult{}, impl.Car{Pos: 400}},
		{"there, in a refuge", impl.Car{Pos: -300}, -1, 0, 9, impl.BookResult{}, impl.Car{Pos: -300}},
		{"level, and still moves", impl.Car{Pos: 398, Vel: 10}, 1, 0, 9, impl.BookResult{Lost: 80000}, impl.Car{Pos: 398}},
		{"level, and still sinks", impl.Car{Pos: 402, Vel: -5}, 1, 2, 9, impl.BookResult{Lost: 23750}, impl.Car{Pos: 402}},
		{"just within HighEnd", impl.Car{Pos: 1252, Vel: 10}, 3, 0, 1, impl.BookResult{Out: 80000}, impl.Car{Pos: 1252}},
		{"leaves HighEnd later than asked", impl.Car{Pos: 1222, Vel: 40}, 0, 0, 1, impl.BookResult{Out: 80000}, impl.Car{Pos: 1252, Vel: 30}},
		{"leaves LowEnd later than asked", impl.Car{Pos: -422, Vel: -40}, 2, 0, 1, impl.BookResult{Out: 1040000}, impl.Car{Pos: -452, Vel: -30}},
		{"leaves HighEnd in no tick", impl.Car{Pos: 1252, Vel: 50}, 0, 0, 0, impl.BookResult{}, impl.Car{Pos: 1252, Vel: 50}},
	}
	for _, r := range rows {
		r.want.Car = r.then
		wantBook(t, r.name, impl.BookRun(exampleHouse(), r.car, r.floor, r.riders, r.ticks), r.want)
	}
}

// Codes in their order, and those of a step in between: all else is zero.
func TestBookedRunsAskInOrder(t *testing.T) {
	formCar, openCar, right := impl.Car{Vel: 1, Door: 1}, impl.Car{Pos: 5, Door: 1}, impl.Car{Pos: 5}
	rows := []struct {
		name   string
		car    impl.Car
		floor  int64
		riders int64
		ticks  int64
		want   int64
	}{
		{"the car ahead of the riders", formCar, 0, 3, 9, impl.ErrForm},
		{"the car ahead of the floor", formCar, 4, 0, 9, impl.ErrForm},
		{"the car ahead of the ticks", formCar, 0, 0, -1, impl.ErrForm},
		{"the riders ahead of the door", openCar, 0, 3, 9, impl.ErrRange},
		{"too few riders ahead of the door", openCar, 0, -1, 9, impl.ErrRange},
		{"riders alone", right, 0, 3, 9, impl.ErrRange},
		{"a floor too low", right, -2, 0, 9, impl.ErrRange},
		{"the refuge below", right, -1, 0, 9, impl.OK},
		{"floor 0", right, 0, 0, 9, impl.OK},
		{"floor Floors - 1", right, 2, 0, 9, impl.OK},
		{"the refuge above", right, 3, 0, 9, impl.OK},
		{"a floor too high", right, 4, 0, 9, impl.ErrRange},
		{"the least floor", right, least, 0, 9, impl.ErrRange},
		{"the greatest floor", right, greatest, 0, 9, impl.ErrRange},
		{"a floor too high, in no tick", right, 4, 0, 0, impl.ErrRange},
		{"the floor ahead of the door", openCar, 4, 0, 9, impl.ErrRange},
		{"a low floor ahead of the door", openCar, -2, 0, 9, impl.ErrRange},
		{"too few ticks", right, 1, 0, -1, impl.ErrRange},
		{"no tick", right, 1, 0, 0, impl.OK},
		{"one tick", right, 1, 0, 1, impl.OK},
		{"MaxTicks", right, 1, 0, 3000, impl.OK},
		{"too many ticks", right, 1, 0, 3001, impl.ErrRange},
		{"the least ticks", right, 1, 0, least, impl.ErrRange},
		{"the most ticks", right, 1, 0, greatest, impl.ErrRange},
		{"too many ticks, and it is there", impl.Car{}, 0, 0, 3001, impl.ErrRange},
		{"the ticks ahead of the door", openCar, 1, 0, 3001, impl.ErrRange},
		{"too few ticks ahead of the door", openCar, 1, 0, -1, impl.ErrRange},
		{"a door on its way", openCar, 1, 0, 9, impl.ErrForm},
		{"a door that is open", impl.Car{Pos: 5, Door: 2}, 1, 2, 9, impl.ErrForm},
		{"a door, in no tick", openCar, 1, 0, 0, impl.ErrForm},
		{"a door, and it is there", impl.Car{Door: 1}, 0, 0, 9, impl.ErrForm},
		{"leaves HighEnd in its first step", impl.Car{Pos: 1252, Vel: 11}, 3, 0, 1, impl.ErrRange},
		{"leaves HighEnd in its second step", impl.Car{Pos: 1222, Vel: 40}, 0, 0, 2, impl.ErrRange},
		{"leaves HighEnd on a long run", impl.Car{Pos: 1222, Vel: 40}, 0, 2, 3000, impl.ErrRange},
		{"leaves LowEnd in its first step", impl.Car{Pos: -452, Vel: -11}, -1, 0, 1, impl.ErrRange},
		{"leaves LowEnd in its second step", impl.Car{Pos: -422, Vel: -40}, 2, 0, 2, impl.ErrRange},
		{"leaves LowEnd on a long run", impl.Car{Pos: -422, Vel: -40}, 2, 2, 3000, impl.ErrRange},
		// It would come back within: the step that left is what is told.
		{"leaves HighEnd and comes back", impl.Car{Pos: 1250, Vel: 15}, 0, 0, 60, impl.ErrRange},
	}
	for _, r := range rows {
		got := impl.BookRun(exampleHouse(), r.car, r.floor, r.riders, r.ticks)
		if got.Code != r.want || got.Code != impl.OK && got != (impl.BookResult{Code: r.want}) {
			t.Errorf("%s: %+v, not %d", r.name, got, r.want)
		}
	}
}

func TestBookedRunsOfAllEdges(t *testing.T) {
	for _, a := range allAccounts() {
		cars := a.fewCars()
		for i, vel := range a.turnSpeeds() {
			cars = append(cars, impl.Car{Pos: int64(7 * i), Vel: vel})
		}
		for i, c := range cars {
			for k, floor := range a.edgeFloors() {
				riders := []int64{0, a.house.Load, 1, -1, a.house.Load + 1, a.house.Load / 2}[(i+k)%6]
				a.holdsBookRun(t, c, floor, riders)
				a.holdsBookRun(t, c, floor, 0)
			}
		}
	}
}

// Where the run is longer than MaxTicks, what is booked is what came till then.
func TestBookedRunsThatMaxTicksEnd(t *testing.T) {
	h := crawlHouse()
	// In each tick the mass times 20; in the first one the mass more.
	wantBook(t, "up", impl.BookRun(h, impl.Car{}, 1, 0, impl.MaxTicks), impl.BookResult{In: 48000800, Car: impl.Car{Pos: 3000, Vel: 1}})
	wantBook(t, "down", impl.BookRun(h, impl.Car{}, -1, 1, impl.MaxTicks), impl.BookResult{Out: 52499125, Car: impl.Car{Pos: -3000, Vel: -1}})
	wantBook(t, "just there", impl.BookRun(h, impl.Car{Pos: 17000}, 1, 0, impl.MaxTicks), impl.BookResult{In: 47984800, Lost: 800, Car: impl.Car{Pos: 19999}})
}

// balances holds promise 14 of one run or step: what is booked is what the car
// has more than it had.
func balances(t *testing.T, h impl.House, ahead impl.Car, riders int64, r impl.BookResult) {
	t.Helper()
	then, was := impl.EnergyOf(h, r.Car, riders), impl.EnergyOf(h, ahead, riders)
	if r.Code != impl.OK || then.Code != impl.OK || was.Code != impl.OK {
		t.Fatalf("%+v: from %+v with %d riders: %+v, energies %+v and %+v", h, ahead, riders, r, was, then)
	}
	if r.In-r.Out-r.Lost != then.Value-was.Value || r.In < 0 || r.Out < 0 || r.Lost < 0 {
		t.Fatalf("%+v: from %+v with %d riders: %+v, energies %d and %d", h, ahead, riders, r, was.Value, then.Value)
	}
}

// isStepwise asks that a run books what its steps book one by one, and comes
// where RunTo comes.
func isStepwise(t *testing.T, h impl.House, c impl.Car, floor, riders, ticks int64) {
	t.Helper()
	sum := impl.BookResult{Car: c}
	for range ticks {
		if sum.Code != impl.OK || impl.ReachedBy(h, sum.Car, floor) {
			break
		}
		step := impl.BookStep(h, sum.Car, impl.CommandFor(h, sum.Car, floor), 0, riders)
		if step.Code != impl.OK {
			sum = step
			break
		}
		balances(t, h, sum.Car, riders, step)
		kinds := 0
		for _, n := range []int64{step.In, step.Out, step.Lost} {
			if n != 0 {
				kinds++
			}
		}
		if kinds > 1 {
			t.Fatalf("%+v: BookStep from %+v books twice: %+v", h, sum.Car, step)
		}
		sum = impl.BookResult{In: sum.In + step.In, Out: sum.Out + step.Out, Lost: sum.Lost + step.Lost, Car: step.Car}
	}
	name := fmt.Sprintf("%+v: from %+v to %d with %d riders in %d ticks", h, c, floor, riders, ticks)
	book := impl.BookRun(h, c, floor, riders, ticks)
	wantBook(t, name, book, sum)
	if run := impl.RunTo(h, c, floor, ticks); run.Code != book.Code || run.Car != book.Car {
		t.Fatalf("%s: RunTo comes to %+v, BookRun to %+v", name, run, book)
	}
	if book.Code == impl.OK {
		balances(t, h, c, riders, book)
	}
}

// Promise 14, over many houses, cars, floors and riders.
func TestBooksBalance(t *testing.T) {
	d := &dice{state: 41}
	ran, left := 0, 0
	for range 1500 {
		h := d.house()
		h.Load = d.upTo(1, 20)
		low, high := impl.LowEnd(h).Value, impl.HighEnd(h).Value
		for range 4 {
			c := impl.Car{Pos: d.upTo(low, high)}
			switch d.upTo(0, 3) {
			case 0:
				c.Vel = d.upTo(-h.Speed, h.Speed)
			case 1:
				c = impl.Car{Pos: high - d.upTo(0, min(h.Speed, high-low)), Vel: d.upTo(0, h.Speed)}
			}
			floor, riders, ticks := d.upTo(-1, h.Floors), d.upTo(0, h.Load), impl.RunBound(h).Value
			if d.upTo(0, 2) == 0 {
				ticks = d.upTo(0, 40)
			}
			isStepwise(t, h, c, floor, riders, min(ticks, impl.MaxTicks))
			if impl.BookRun(h, c, floor, riders, 300).Code == impl.OK {
				ran++
			} else {
				left++
			}
		}
	}
	if ran < 1000 || left < 100 {
		t.Errorf("%d runs came to their end, and %d left the shaft", ran, left)
	}
}

// Promise 14, in the houses of all edges, between all floors.
func TestBooksBalanceBetweenAllFloors(t *testing.T) {
	for _, h := range append(rightHouses(), heavyHouse(), crawlHouse(), softHouse(), evenHouse(), strongHouse()) {
		for from := int64(-1); from <= h.Floors; from++ {
			c := impl.Car{Pos: impl.LevelOf(h, from).Value}
			for to := int64(-1); to <= h.Floors; to++ {
				isStepwise(t, h, c, to, (from+to+2)%(h.Load+1), impl.MaxTicks)
			}
		}
	}
}

// softened is a house whose brakes are so weak that who rises may gain by them.
func softened(h impl.House) impl.House {
	h.Push, h.Brake = min(h.Push, 9), min(h.Push, 9)
	h.Drift = min(h.Drift, h.Push-1)
	h.Gap, h.Refuge = impl.ApartOf(h).Value, impl.ApartOf(h).Value
	return h
}

// Promise 14, of steps under any command, with any drift.
func TestStepsBalance(t *testing.T) {
	d := &dice{state: 42}
	braked, gained := 0, 0
	for range 3000 {
		h := d.house()
		if d.upTo(0, 1) == 0 {
			h = softened(h)
		}
		c, riders := impl.Car{Pos: d.upTo(0, h.Gap)}, d.upTo(0, h.Load)
		for range 20 {
			x := d.command(h)
			r := impl.BookStep(h, c, x, d.upTo(-h.Drift, h.Drift), riders)
			if r.Code != impl.OK {
				break
			}
			balances(t, h, c, riders, r)
			isBraking := x.Brake || x.Open
			if r.Lost != 0 && (!isBraking || r.In != 0) || r.Out != 0 && (isBraking || r.In != 0) {
				t.Fatalf("BookStep(%+v, %+v, %+v) is %+v", h, c, x, r)
			}
			if r.Lost != 0 {
				braked++
			}
			if isBraking && r.In != 0 {
				gained++
			}
			c = r.Car
		}
	}
	if braked < 500 || gained < 50 {
		t.Errorf("%d steps lost by braking, and %d gained", braked, gained)
	}
}

// Who stands at both ends of a run has more by its height alone, and what one
// rider more costs is the same in every run.
func TestRunsBetweenFloorsCostTheirHeight(t *testing.T) {
	h := wideHouse()
	for from := range h.Floors {
		for to := range h.Floors {
			c := impl.Car{Pos: impl.LevelOf(h, from).Value}
			empty := impl.BookRun(h, c, to, 0, impl.MaxTicks)
			for riders := range h.Load + 1 {
				r := impl.BookRun(h, c, to, riders, impl.MaxTicks)
				mass := impl.MassOf(h, riders).Value
				if r.In-r.Out-r.Lost != mass*20*(r.Car.Pos-c.Pos) {
					t.Fatalf("from %d to %d with %d riders: %+v", from, to, riders, r)
				}
				if r.In != empty.In/800*mass || r.Out != empty.Out/800*mass || r.Lost != empty.Lost/800*mass || r.Car != empty.Car {
					t.Fatalf("from %d to %d with %d riders: %+v, without %+v", from, to, riders, r, empty)
				}
			}
		}
	}
}

func TestEnergyChangesNoArgument(t *testing.T) {
	for _, a := range allAccounts() {
		for _, c := range a.fewCars() {
			h, car, x := a.house, c, impl.Command{Brake: true}
			impl.MassOf(h, 1)
			impl.MovingOf(h, car, 1)
			impl.RaisedOf(h, car, 1)
			impl.EnergyOf(h, car, 1)
			impl.BookStep(h, car, x, 0, 1)
			impl.BookRun(h, car, 1, 1, 9)
			if h != a.house || car != c || x != (impl.Command{Brake: true}) {
				t.Fatalf("%+v, %+v became %+v, %+v, under %+v", a.house, c, h, car, x)
			}
		}
	}
}

type energyAnswers struct {
	mass, moving, raised, whole impl.IntResult
	step, other, run            impl.BookResult
}

func energyAnswersEverywhere() []energyAnswers {
	var list []energyAnswers
	numbers := []int64{least, least + 1, -big1, -51, -2, -1, 0, 1, 3, 50, 3000, 3001, big1, greatest - 1, greatest}
	for _, h := range append(housesOfAllKinds(), crawlHouse()) {
		for _, a := range numbers {
			for _, b := range numbers {
				for _, n := range numbers {
					c := impl.Car{Pos: a, Vel: b, Door: max(0, n)}
					moves := impl.Car{Pos: a, Vel: b}
					x := impl.Command{Push: n, Brake: a > 0, Open: b > 0}
					list = append(list, energyAnswers{
						impl.MassOf(h, n), impl.MovingOf(h, c, b), impl.RaisedOf(h, c, a), impl.EnergyOf(h, moves, n),
						impl.BookStep(h, moves, x, n, b), impl.BookStep(h, impl.Car{Vel: a}, impl.Command{Push: b}, n, 1),
						impl.BookRun(h, moves, n, 1, a),
					})
				}
			}
		}
	}
	return list
}

// Every call of chapter 13 answers whatever it is given, and the same again when
// other calls stood between.
func TestEnergyAnswersEverywhere(t *testing.T) {
	sameTwice(t, energyAnswersEverywhere)
}
