package tests

import (
	"fmt"
	"slices"
	"sync"
	"testing"

	"loop.example/g00155/impl"
)

// reckoning is what the document tells of traffic, worked out the plain way: a
// flight is the list of its cars, and doors are added one by one.
type reckoning struct {
	journey
	known map[[2]int64]impl.IntResult
}

func reckoningOf(h impl.House) reckoning {
	return reckoning{journeyOf(h), map[[2]int64]impl.IntResult{}}
}

func allReckonings() []reckoning {
	var list []reckoning
	for _, a := range allAccounts() {
		list = append(list, reckoningOf(a.house))
	}
	for _, h := range []impl.House{smallHouse(), storeys(2), storeys(12), slowHouse(3, 1499), slowHouse(3, 1500), farRefuges()} {
		list = append(list, reckoningOf(h))
	}
	return list
}

// slowHouse has cars that go a millimetre a tick, and brake for one behind them:
// a flight over n millimetres takes n and 1 ticks.
func slowHouse(floors, gap int64) impl.House {
	return impl.House{
		Floors: floors, Gap: gap, Length: 1, Refuge: 9, Speed: 1, Push: 1,
		Brake: 1, Drift: 0, Level: 0, Door: 3, Load: 4, Queue: 1,
	}
}

// farRefuges has refuges alone that no flight ends at in MaxTicks.
func farRefuges() impl.House {
	h := slowHouse(4, 20)
	h.Refuge = 3000
	return h
}

func (r reckoning) flight(from, to int64) impl.IntResult {
	way := [2]int64{from, to}
	if _, isKnown := r.known[way]; !isKnown {
		r.known[way] = r.followed(from, to)
	}
	return r.known[way]
}

func (r reckoning) followed(from, to int64) impl.IntResult {
	switch {
	case r.plan.fault != impl.OK:
		return impl.IntResult{Code: r.plan.fault}
	case !r.isFloor(from) || !r.isFloor(to):
		return impl.IntResult{Code: impl.ErrRange}
	}
	cars := r.tripOf(impl.Car{Pos: r.plan.places[from+1]}, to, 3000).cars
	if last := cars[len(cars)-1]; last.Vel != 0 || sizeOf(r.way(last, to)) > r.house.Level {
		return impl.IntResult{Code: impl.ErrMany}
	}
	return impl.IntResult{Value: int64(len(cars)) - 1}
}

func (r reckoning) table() impl.TableResult {
	if r.plan.fault != impl.OK {
		return impl.TableResult{Code: r.plan.fault}
	}
	rows := make([][]int64, r.house.Floors)
	for from := range rows {
		for to := range r.house.Floors {
			flight := r.flight(int64(from), to)
			if flight.Code != impl.OK {
				return impl.TableResult{Code: flight.Code}
			}
			rows[from] = append(rows[from], flight.Value)
		}
	}
	return impl.TableResult{Rows: rows}
}

func (r reckoning) longest() impl.IntResult {
	table := r.table()
	greatest := int64(0)
	for _, row := range table.Rows {
		greatest = max(greatest, slices.Max(row))
	}
	return answerOf(table.Code, greatest)
}

func (r reckoning) tripFault(stops []int64) int64 {
	isOut := func(f int64) bool { return f < 0 || f >= r.house.Floors }
	switch {
	case r.plan.fault != impl.OK:
		return r.plan.fault
	case len(stops) > 30:
		return impl.ErrMany
	case slices.ContainsFunc(stops, isOut):
		return impl.ErrRange
	}
	return impl.OK
}

func (r reckoning) trip(stops []int64) impl.IntResult {
	if fault := r.tripFault(stops); fault != impl.OK {
		return impl.IntResult{Code: fault}
	}
	ticks := int64(0)
	for k, stop := range stops {
		ticks += r.house.Door + r.house.Door
		if k == 0 {
			continue
		}
		flight := r.flight(stops[k-1], stop)
		if flight.Code != impl.OK {
			return flight
		}
		ticks += flight.Value
	}
	return impl.IntResult{Value: ticks}
}

func (r reckoning) roundTrip() impl.IntResult {
	return r.trip([]int64{0, r.house.Floors - 1, 0})
}

func sameTables(a, b impl.TableResult) bool {
	return a.Code == b.Code && slices.EqualFunc(a.Rows, b.Rows, slices.Equal[[]int64])
}

func wantTable(t *testing.T, name string, got, want impl.TableResult) {
	t.Helper()
	if !sameTables(got, want) {
		t.Errorf("%s is %+v, not %+v", name, got, want)
	}
}

func (r reckoning) holdsFlight(t *testing.T, from, to int64) {
	t.Helper()
	if got, want := impl.FlightTicks(r.house, from, to), r.flight(from, to); got != want {
		t.Fatalf("FlightTicks(%+v, %d, %d) is %+v, not %+v", r.house, from, to, got, want)
	}
}

func (r reckoning) holdsTrip(t *testing.T, stops []int64) {
	t.Helper()
	if got, want := impl.TripTicks(r.house, stops), r.trip(stops); got != want {
		t.Fatalf("TripTicks(%+v, %v) is %+v, not %+v", r.house, stops, got, want)
	}
}

// holdsHandled asks that the trips fit into the ticks, and one more does not.
func (r reckoning) holdsHandled(t *testing.T, ticks int64) {
	t.Helper()
	got, round := impl.HandledIn(r.house, ticks), r.roundTrip()
	switch {
	case r.plan.fault != impl.OK:
		wantIntCode(t, "HandledIn in a house with a fault", got, r.plan.fault)
	case ticks < 0 || ticks > big1:
		wantIntCode(t, fmt.Sprintf("HandledIn %d", ticks), got, impl.ErrRange)
	case round.Code != impl.OK:
		wantIntCode(t, fmt.Sprintf("HandledIn %d of %+v", ticks, r.house), got, round.Code)
	default:
		often := got.Value / r.house.Load
		left := ticks - often*round.Value
		if got.Code != impl.OK || got.Value != often*r.house.Load || left < 0 || left >= round.Value {
			t.Fatalf("HandledIn(%+v, %d) is %+v, of trips of %d", r.house, ticks, got, round.Value)
		}
	}
}

// holdsPeak asks that the trips have room for all, and one fewer has not.
func (r reckoning) holdsPeak(t *testing.T, people int64) {
	t.Helper()
	got, round := impl.UpPeak(r.house, people), r.roundTrip()
	switch {
	case r.plan.fault != impl.OK:
		wantIntCode(t, "UpPeak in a house with a fault", got, r.plan.fault)
	case people < 0 || people > 1000000:
		wantIntCode(t, fmt.Sprintf("UpPeak of %d", people), got, impl.ErrRange)
	case round.Code != impl.OK:
		wantIntCode(t, fmt.Sprintf("UpPeak of %d in %+v", people, r.house), got, round.Code)
	default:
		trips := got.Value / round.Value
		room := trips * r.house.Load
		if got.Code != impl.OK || got.Value != trips*round.Value || room < people || room-r.house.Load >= people {
			t.Fatalf("UpPeak(%+v, %d) is %+v, of trips of %d", r.house, people, got, round.Value)
		}
	}
}

// A fault of the house goes ahead of everything, right and wrong.
func TestTrafficInHousesWithFaults(t *testing.T) {
	lists := [][]int64{nil, {}, {0}, {1, 2}, {-1}, {90}, make([]int64, 7), make([]int64, 31), {greatest, least}}
	numbers := []int64{least, -2, -1, 0, 1, 2, 3, 1000001, big1, big1 + 1, greatest}
	for _, h := range faultyHouses() {
		fault := planOf(h).fault
		if fault == impl.OK {
			t.Fatalf("%+v has no fault", h)
		}
		name := fmt.Sprintf("%+v", h)
		wantTable(t, name+": FlightTable", impl.FlightTable(h), impl.TableResult{Code: fault})
		wantIntCode(t, name+": LongestFlight", impl.LongestFlight(h), fault)
		for _, list := range lists {
			wantIntCode(t, name+": TripTicks", impl.TripTicks(h, list), fault)
			wantInts(t, name+": PairsLost", impl.PairsLost(h, list), fault)
		}
		for _, a := range numbers {
			wantIntCode(t, name+": HandledIn", impl.HandledIn(h, a), fault)
			wantIntCode(t, name+": UpPeak", impl.UpPeak(h, a), fault)
			for _, b := range numbers {
				wantIntCode(t, name+": FlightTicks", impl.FlightTicks(h, a, b), fault)
			}
		}
	}
}

// Every number of a house at its edges, and beyond them.
func TestTrafficInHousesOfAllEdges(t *testing.T) {
	for _, h := range housesOfAllKinds() {
		r := reckoningOf(h)
		wantTable(t, fmt.Sprintf("FlightTable of %+v", h), impl.FlightTable(h), r.table())
		if got, want := impl.LongestFlight(h), r.longest(); got != want {
			t.Errorf("LongestFlight(%+v) is %+v, not %+v", h, got, want)
		}
		r.holdsFlight(t, 0, 1)
		r.holdsFlight(t, -1, 1)
		r.holdsTrip(t, []int64{0, 1, 0})
		r.holdsHandled(t, 1000)
		r.holdsPeak(t, 7)
	}
}

// Between the example's floors 0 and 1 a flight takes 13 ticks (it is followed
// where runs are), and each 50 millimetres at full speed take one more.
func TestFlightsByHand(t *testing.T) {
	h := exampleHouse()
	rows := []struct {
		name     string
		from, to int64
		want     int64
	}{
		{"nothing", 1, 1, 0},
		{"nothing, below", 0, 0, 0},
		{"nothing, above", 2, 2, 0},
		{"nothing, in the refuge below", -1, -1, 0},
		{"nothing, in the refuge above", 3, 3, 0},
		{"up", 0, 1, 13},
		{"down", 1, 0, 13},
		{"up, above", 1, 2, 13},
		{"down, from above", 2, 1, 13},
		{"up two", 0, 2, 21},
		{"down two", 2, 0, 21},
		{"from the refuge below", -1, 0, 11},
		{"to the refuge below", 0, -1, 11},
		{"to the refuge above", 2, 3, 11},
		{"from the refuge above", 3, 2, 11},
		{"past a floor to a refuge", 1, 3, 19},
		{"past a floor from a refuge", -1, 1, 19},
		{"from refuge to refuge, up", -1, 3, 33},
		{"from refuge to refuge, down", 3, -1, 33},
	}
	for _, r := range rows {
		wantInt(t, r.name, impl.FlightTicks(h, r.from, r.to), r.want)
	}
	for _, h := range rightHouses() {
		for floor := int64(-1); floor <= h.Floors; floor++ {
			wantInt(t, "from a floor to itself", impl.FlightTicks(h, floor, floor), 0)
		}
	}
}

func TestFlightsOutOfBounds(t *testing.T) {
	for _, h := range append(rightHouses(), crawlHouse()) {
		right := []int64{-1, 0, 1, h.Floors - 1, h.Floors}
		for _, far := range outside(-1, h.Floors) {
			wantIntCode(t, "both", impl.FlightTicks(h, far, far), impl.ErrRange)
			for _, floor := range right {
				wantIntCode(t, fmt.Sprintf("from %d to %d", far, floor), impl.FlightTicks(h, far, floor), impl.ErrRange)
				wantIntCode(t, fmt.Sprintf("from %d to %d", floor, far), impl.FlightTicks(h, floor, far), impl.ErrRange)
			}
		}
	}
}

func TestFlightsBetweenAllFloors(t *testing.T) {
	for _, r := range allReckonings() {
		top := min(max(r.house.Floors, 0), 12)
		for from := int64(-2); from <= top+1; from++ {
			for to := int64(-2); to <= top+1; to++ {
				r.holdsFlight(t, from, to)
			}
		}
	}
}

// A flight that ends in the last tick of MaxTicks is one, and a tick longer it
// is none: it has a code of its own, not the ticks that are over.
func TestFlightsThatMaxTicksEnd(t *testing.T) {
	just, over := slowHouse(2, 2999), slowHouse(2, 3000)
	wantInt(t, "just in MaxTicks, up", impl.FlightTicks(just, 0, 1), 3000)
	wantInt(t, "just in MaxTicks, down", impl.FlightTicks(just, 1, 0), 3000)
	wantInt(t, "one tick fewer", impl.FlightTicks(slowHouse(2, 2998), 0, 1), 2999)
	wantIntCode(t, "one tick more, up", impl.FlightTicks(over, 0, 1), impl.ErrMany)
	wantIntCode(t, "one tick more, down", impl.FlightTicks(over, 1, 0), impl.ErrMany)
	wantInt(t, "no tick at all", impl.FlightTicks(over, 1, 1), 0)
	wantInt(t, "to a refuge of the same house", impl.FlightTicks(over, 0, -1), 10)
	h := crawlHouse()
	for from := int64(-1); from <= h.Floors; from++ {
		for to := int64(-1); to <= h.Floors; to++ {
			if from == to {
				wantInt(t, "nothing", impl.FlightTicks(h, from, to), 0)
			} else {
				wantIntCode(t, fmt.Sprintf("from %d to %d", from, to), impl.FlightTicks(h, from, to), impl.ErrMany)
			}
		}
	}
	// It stands there when it arrives: that it is level on its way is not enough.
	level := slowHouse(2, 3050)
	level.Level, level.Length, level.Refuge = 50, 1, 200
	wantIntCode(t, "level in the last tick, but it moves", impl.FlightTicks(level, 0, 1), impl.ErrMany)
	level.Gap = 3049
	wantInt(t, "level, and braked in the last tick", impl.FlightTicks(level, 0, 1), 3000)
}

func TestTablesByHand(t *testing.T) {
	wantTable(t, "the example's", impl.FlightTable(exampleHouse()), impl.TableResult{Rows: [][]int64{{0, 13, 21}, {13, 0, 13}, {21, 13, 0}}})
	wantTable(t, "that of two floors", impl.FlightTable(storeys(2)), impl.TableResult{Rows: [][]int64{{0, 13}, {13, 0}}})
	wantTable(t, "the least house's", impl.FlightTable(leastHouse()), impl.TableResult{Rows: [][]int64{{0, 3}, {3, 0}}})
	wantTable(t, "a slow house's", impl.FlightTable(slowHouse(4, 10)), impl.TableResult{Rows: [][]int64{{0, 11, 21, 31}, {11, 0, 11, 21}, {21, 11, 0, 11}, {31, 21, 11, 0}}})
	wantTable(t, "one with refuges far away", impl.FlightTable(farRefuges()), impl.TableResult{Rows: [][]int64{{0, 21, 41, 61}, {21, 0, 21, 41}, {41, 21, 0, 21}, {61, 41, 21, 0}}})
	table := impl.FlightTable(storeys(12))
	if table.Code != impl.OK || len(table.Rows) != 12 {
		t.Fatalf("12 floors: %+v", table)
	}
	for from, row := range table.Rows {
		if len(row) != 12 {
			t.Fatalf("row %d: %v", from, row)
		}
		for to, ticks := range row {
			want := 8*sizeOf(int64(from-to)) + 5
			if from == to {
				want = 0
			}
			if ticks != want {
				t.Errorf("from %d to %d: %d, not %d", from, to, ticks, want)
			}
		}
	}
}

func TestTablesAreTheirFlights(t *testing.T) {
	d := &dice{state: 51}
	houses := append(rightHouses(), heavyHouse(), farRefuges(), slowHouse(12, 272))
	for range 100 {
		houses = append(houses, d.house())
	}
	for _, h := range houses {
		table := impl.FlightTable(h)
		if table.Code != impl.OK || int64(len(table.Rows)) != h.Floors {
			t.Fatalf("FlightTable(%+v) is %+v", h, table)
		}
		for from, row := range table.Rows {
			if int64(len(row)) != h.Floors || row[from] != 0 {
				t.Fatalf("FlightTable(%+v) has %v at %d", h, row, from)
			}
			for to, ticks := range row {
				wantInt(t, fmt.Sprintf("%+v: from %d to %d", h, from, to), impl.FlightTicks(h, int64(from), int64(to)), ticks)
			}
		}
	}
}

// One flight with a code is enough: then there are no rows, not even those that
// have none.
func TestTablesWithACode(t *testing.T) {
	wrong := impl.TableResult{Code: impl.ErrMany}
	for _, h := range []impl.House{crawlHouse(), slowHouse(2, 3000), slowHouse(3, 1500), slowHouse(12, 273), slowHouse(4, 1000)} {
		got := impl.FlightTable(h)
		wantTable(t, fmt.Sprintf("FlightTable of %+v", h), got, wrong)
		wantIntCode(t, "LongestFlight", impl.LongestFlight(h), impl.ErrMany)
	}
	wantInt(t, "the middle row of one of them", impl.FlightTicks(slowHouse(3, 1500), 1, 2), 1501)
	if r := impl.FlightTable(slowHouse(3, 1499)); r.Code != impl.OK || r.Rows[0][2] != 2999 {
		t.Errorf("all are done in MaxTicks: %+v", r)
	}
}

// Tables that are asked for at once are those that are asked for one by one.
func TestTablesAtOnce(t *testing.T) {
	houses := append(rightHouses(), storeys(12), crawlHouse(), nearHouse(), outHouse())
	const askers = 6
	tables := make([]impl.TableResult, askers*len(houses))
	var asked sync.WaitGroup
	for i := range tables {
		asked.Go(func() { tables[i] = impl.FlightTable(houses[i%len(houses)]) })
	}
	asked.Wait()
	for i, table := range tables {
		wantTable(t, "asked at once", table, impl.FlightTable(houses[i%len(houses)]))
	}
}

func TestLongestFlights(t *testing.T) {
	wantInt(t, "the example's", impl.LongestFlight(exampleHouse()), 21)
	wantInt(t, "that of two floors", impl.LongestFlight(storeys(2)), 13)
	wantInt(t, "that of twelve", impl.LongestFlight(storeys(12)), 93)
	wantInt(t, "just in MaxTicks", impl.LongestFlight(slowHouse(2, 2999)), 3000)
	wantInt(t, "without the refuges", impl.LongestFlight(farRefuges()), 61)
	d := &dice{state: 52}
	for range 200 {
		h := d.farHouse()
		table, most := impl.FlightTable(h), int64(0)
		for _, row := range table.Rows {
			most = max(most, slices.Max(row))
		}
		if got, want := impl.LongestFlight(h), answerOf(table.Code, most); got != want {
			t.Fatalf("LongestFlight(%+v) is %+v, not %+v", h, got, want)
		}
	}
}

// The example's Door is 2: each stop takes 4 ticks.
func TestTripsByHand(t *testing.T) {
	h := exampleHouse()
	slow := slowHouse(3, 1500) // Door 3; from 0 to 2 no flight is done in MaxTicks
	rows := []struct {
		name  string
		house impl.House
		stops []int64
		want  impl.IntResult
	}{
		{"no list", h, nil, impl.IntResult{}},
		{"no stop", h, []int64{}, impl.IntResult{}},
		{"one", h, []int64{1}, impl.IntResult{Value: 4}},
		{"the lowest", h, []int64{0}, impl.IntResult{Value: 4}},
		{"the highest", h, []int64{2}, impl.IntResult{Value: 4}},
		{"two that are the same", h, []int64{1, 1}, impl.IntResult{Value: 8}},
		{"three that are the same", h, []int64{2, 2, 2}, impl.IntResult{Value: 12}},
		{"up", h, []int64{0, 1}, impl.IntResult{Value: 21}},
		{"down", h, []int64{1, 0}, impl.IntResult{Value: 21}},
		{"up two", h, []int64{0, 2}, impl.IntResult{Value: 29}},
		{"with a stop between", h, []int64{0, 1, 2}, impl.IntResult{Value: 38}},
		{"there and back", h, []int64{0, 2, 0}, impl.IntResult{Value: 54}},
		{"not back to the first", h, []int64{0, 2, 1}, impl.IntResult{Value: 46}},
		{"twice the same on the way", h, []int64{0, 1, 1, 2}, impl.IntResult{Value: 42}},
		{"a longer one", h, []int64{2, 0, 1, 0, 2, 2}, impl.IntResult{Value: 92}},
		{"too low", h, []int64{-1}, impl.IntResult{Code: impl.ErrRange}},
		{"too high", h, []int64{3}, impl.IntResult{Code: impl.ErrRange}},
		{"the first is too low", h, []int64{-1, 0, 1}, impl.IntResult{Code: impl.ErrRange}},
		{"the last is too high", h, []int64{0, 1, 3}, impl.IntResult{Code: impl.ErrRange}},
		{"one between is too high", h, []int64{0, 3, 1}, impl.IntResult{Code: impl.ErrRange}},
		{"the least number", h, []int64{0, least}, impl.IntResult{Code: impl.ErrRange}},
		{"the greatest number", h, []int64{greatest, 0}, impl.IntResult{Code: impl.ErrRange}},
		{"30 stops", h, make([]int64, 30), impl.IntResult{Value: 120}},
		{"31 stops", h, make([]int64, 31), impl.IntResult{Code: impl.ErrMany}},
		{"30 stops up and down", h, slices.Repeat([]int64{0, 1}, 15), impl.IntResult{Value: 29*13 + 120}},
		{"31 stops, one of them wrong", h, append(make([]int64, 30), -1), impl.IntResult{Code: impl.ErrMany}},
		{"31 stops, all of them wrong", h, slices.Repeat([]int64{9}, 31), impl.IntResult{Code: impl.ErrMany}},
		{"30 stops, the last one wrong", h, append(make([]int64, 29), 3), impl.IntResult{Code: impl.ErrRange}},
		{"a flight that is done", slow, []int64{0, 1, 2, 1}, impl.IntResult{Value: 3*1501 + 24}},
		{"a flight that is not", slow, []int64{0, 2}, impl.IntResult{Code: impl.ErrMany}},
		{"the last one is not", slow, []int64{0, 1, 2, 0}, impl.IntResult{Code: impl.ErrMany}},
		{"one that is not, and a wrong stop behind it", slow, []int64{0, 2, 3}, impl.IntResult{Code: impl.ErrRange}},
		{"one that is not, and a wrong stop ahead", slow, []int64{-1, 0, 2}, impl.IntResult{Code: impl.ErrRange}},
		{"no flight at all", slow, []int64{2, 2}, impl.IntResult{Value: 12}},
		{"a house of few ticks, one stop", crawlHouse(), []int64{1}, impl.IntResult{Value: 2}},
		{"the longest of all", longestTrips(), slices.Repeat([]int64{0, 1}, 15), impl.IntResult{Value: 29*3000 + 30*40}},
	}
	for _, r := range rows {
		if got := impl.TripTicks(r.house, r.stops); got != r.want {
			t.Errorf("%s: %+v, not %+v", r.name, got, r.want)
		}
	}
}

// longestTrips has a flight of just MaxTicks, and the slowest doors.
func longestTrips() impl.House {
	h := slowHouse(2, 2999)
	h.Door, h.Load = 20, 20
	return h
}

func TestTripsAtEveryPlace(t *testing.T) {
	for _, r := range allReckonings() {
		top := r.house.Floors - 1
		for length := range 33 {
			r.holdsTrip(t, make([]int64, length))
			for k := range length {
				for _, far := range append(outside(0, top), 0, top, 1) {
					stops := make([]int64, length)
					stops[k] = far
					r.holdsTrip(t, stops)
				}
			}
		}
	}
}

func TestAllShortTrips(t *testing.T) {
	for _, h := range []impl.House{exampleHouse(), storeys(2), slowHouse(3, 1500), crawlHouse(), oddHouse()} {
		r := reckoningOf(h)
		for length := range 4 {
			for _, stops := range listsOf(length, upFrom(-1, h.Floors)) {
				r.holdsTrip(t, stops)
			}
		}
	}
}

// The example's trip from below to above and back takes 54 ticks, its Load is 2.
func TestHandledByHand(t *testing.T) {
	h := exampleHouse()
	rows := []struct{ ticks, want int64 }{
		{0, 0}, {1, 0}, {53, 0}, {54, 2}, {55, 2}, {107, 2}, {108, 4}, {109, 4}, {161, 4}, {162, 6}, {5400, 200}, {big1, 37037037037036},
	}
	for _, r := range rows {
		wantInt(t, fmt.Sprintf("in %d ticks", r.ticks), impl.HandledIn(h, r.ticks), r.want)
	}
	for _, far := range outside(0, big1) {
		wantIntCode(t, fmt.Sprintf("in %d ticks", far), impl.HandledIn(h, far), impl.ErrRange)
		wantIntCode(t, fmt.Sprintf("in %d ticks, where no trip is done", far), impl.HandledIn(crawlHouse(), far), impl.ErrRange)
	}
	for _, ticks := range []int64{0, 1, 3000, big1} {
		wantIntCode(t, fmt.Sprintf("no trip is done, in %d ticks", ticks), impl.HandledIn(crawlHouse(), ticks), impl.ErrMany)
		wantIntCode(t, fmt.Sprintf("no trip is done, in %d ticks", ticks), impl.HandledIn(slowHouse(3, 1500), ticks), impl.ErrMany)
	}
	small := leastHouse() // its trip takes 12 ticks
	small.Load = 20
	wantInt(t, "in most ticks", impl.HandledIn(small, big1), 1666666666666660)
	wantInt(t, "a trip without the refuges", impl.HandledIn(farRefuges(), 2*61+18), 4)
}

func TestHandledAroundTrips(t *testing.T) {
	for _, r := range allReckonings() {
		round := r.roundTrip().Value
		numbers := append(outside(0, big1), around(0, round, 2*round, 3*round, 1000*round, big1-1)...)
		for _, ticks := range numbers {
			r.holdsHandled(t, ticks)
		}
	}
	d := &dice{state: 53}
	for range 300 {
		r := reckoningOf(d.house())
		r.house.Load = d.upTo(1, 20)
		for range 5 {
			r.holdsHandled(t, d.wide(big1))
			r.holdsHandled(t, d.upTo(0, 2000))
		}
	}
}

func TestPeaksByHand(t *testing.T) {
	h := exampleHouse()
	rows := []struct{ people, want int64 }{
		{0, 0}, {1, 54}, {2, 54}, {3, 108}, {4, 108}, {5, 162}, {999999, 27000000}, {1000000, 27000000},
	}
	for _, r := range rows {
		wantInt(t, fmt.Sprintf("%d people", r.people), impl.UpPeak(h, r.people), r.want)
	}
	for _, far := range outside(0, 1000000) {
		wantIntCode(t, fmt.Sprintf("%d people", far), impl.UpPeak(h, far), impl.ErrRange)
		wantIntCode(t, fmt.Sprintf("%d people, where no trip is done", far), impl.UpPeak(crawlHouse(), far), impl.ErrRange)
	}
	for _, people := range []int64{0, 1, 4, 1000000} {
		wantIntCode(t, fmt.Sprintf("no trip is done, %d people", people), impl.UpPeak(crawlHouse(), people), impl.ErrMany)
		wantIntCode(t, fmt.Sprintf("no trip is done, %d people", people), impl.UpPeak(slowHouse(3, 1500), people), impl.ErrMany)
	}
	one := longestTrips() // its trip takes 6120 ticks
	wantInt(t, "just a load", impl.UpPeak(one, 20), 6120)
	wantInt(t, "one more than a load", impl.UpPeak(one, 21), 12240)
	one.Load = 1
	wantInt(t, "the longest peak", impl.UpPeak(one, 1000000), 6120000000)
}

func TestPeaksAroundLoads(t *testing.T) {
	for _, r := range allReckonings() {
		load := min(max(r.house.Load, 0), 20)
		numbers := append(outside(0, 1000000), around(0, 1, load, 2*load, 3*load, 100*load, 1000000)...)
		for _, people := range numbers {
			r.holdsPeak(t, people)
		}
	}
	d := &dice{state: 54}
	for range 300 {
		r := reckoningOf(d.house())
		r.house.Load = d.upTo(1, 20)
		for range 5 {
			r.holdsPeak(t, d.upTo(0, 1000000))
			r.holdsPeak(t, d.upTo(0, 60))
		}
	}
}

func TestMeansByHand(t *testing.T) {
	rows := []struct {
		name string
		list []int64
		want impl.IntResult
	}{
		{"no list", nil, impl.IntResult{Code: impl.ErrNone}},
		{"an empty list", []int64{}, impl.IntResult{Code: impl.ErrNone}},
		{"one", []int64{7}, impl.IntResult{Value: 7}},
		{"0", []int64{0}, impl.IntResult{}},
		{"the greatest", []int64{big1}, impl.IntResult{Value: big1}},
		{"the sum divides", []int64{1, 3}, impl.IntResult{Value: 2}},
		{"it does not", []int64{1, 2}, impl.IntResult{Value: 2}},
		{"nor the other way round", []int64{2, 1}, impl.IntResult{Value: 2}},
		{"one is left over", []int64{3, 3, 4}, impl.IntResult{Value: 4}},
		{"one is missing", []int64{3, 4, 4}, impl.IntResult{Value: 4}},
		{"nothing is left over", []int64{2, 4, 6}, impl.IntResult{Value: 4}},
		{"noughts", []int64{0, 0, 0}, impl.IntResult{}},
		{"a 1 among noughts", []int64{0, 0, 0, 1, 0}, impl.IntResult{Value: 1}},
		{"0 and the greatest", []int64{0, big1}, impl.IntResult{Value: big1 / 2}},
		{"1 and the greatest", []int64{1, big1}, impl.IntResult{Value: big1/2 + 1}},
		{"60 noughts", make([]int64, 60), impl.IntResult{}},
		{"60 that are the greatest", slices.Repeat([]int64{big1}, 60), impl.IntResult{Value: big1}},
		{"59 that are, and one that is 1 less", append(slices.Repeat([]int64{big1}, 59), big1-1), impl.IntResult{Value: big1}},
		{"59 noughts and a 1", append(make([]int64, 59), 1), impl.IntResult{Value: 1}},
		{"61 noughts", make([]int64, 61), impl.IntResult{Code: impl.ErrMany}},
		{"61 that are wrong", slices.Repeat([]int64{-1}, 61), impl.IntResult{Code: impl.ErrMany}},
		{"60, and a wrong one", append(make([]int64, 60), big1+1), impl.IntResult{Code: impl.ErrMany}},
		{"far too many", make([]int64, 5000), impl.IntResult{Code: impl.ErrMany}},
		{"below 0", []int64{-1}, impl.IntResult{Code: impl.ErrRange}},
		{"above MaxBig", []int64{big1 + 1}, impl.IntResult{Code: impl.ErrRange}},
		{"one below 0 and one above", []int64{-1, 1}, impl.IntResult{Code: impl.ErrRange}},
		{"the last one", []int64{1, 2, 3, -1}, impl.IntResult{Code: impl.ErrRange}},
		{"the first one", []int64{big1 + 1, 2, 3}, impl.IntResult{Code: impl.ErrRange}},
		{"the least number", []int64{5, least}, impl.IntResult{Code: impl.ErrRange}},
		{"the greatest number", []int64{greatest, greatest}, impl.IntResult{Code: impl.ErrRange}},
	}
	for _, r := range rows {
		if got := impl.MeanUp(r.list); got != r.want {
			t.Errorf("%s: %+v, not %+v", r.name, got, r.want)
		}
	}
}

func TestMeansAtEveryPlace(t *testing.T) {
	for length := 1; length <= 62; length++ {
		want := int64(impl.ErrRange)
		if length > 60 {
			want = impl.ErrMany
		}
		for k := range length {
			for _, far := range outside(0, big1) {
				list := make([]int64, length)
				list[k] = far
				wantIntCode(t, fmt.Sprintf("%d at %d of %d", far, k, length), impl.MeanUp(list), want)
			}
		}
	}
}

// numbers are up to 60, of which some are at the edges.
func (d *dice) numbers() []int64 {
	var list []int64
	top := []int64{1, 5, 300, big1}[d.upTo(0, 3)]
	for range d.upTo(1, 60) {
		switch d.upTo(0, 9) {
		case 0:
			list = append(list, 0)
		case 1:
			list = append(list, top)
		default:
			list = append(list, sizeOf(d.wide(top)))
		}
	}
	return list
}

// Promise 15: a mean lies between the least and the greatest, and is the least
// number that the sum does not exceed when all are it.
func TestMeansLieBetween(t *testing.T) {
	d := &dice{state: 55}
	even, rounded := 0, 0
	for range 8000 {
		list := d.numbers()
		got, sum, count := impl.MeanUp(list), int64(0), int64(len(list))
		for _, n := range list {
			sum += n
		}
		if got.Code != impl.OK || got.Value < slices.Min(list) || got.Value > slices.Max(list) {
			t.Fatalf("MeanUp(%v) is %+v", list, got)
		}
		if over := got.Value*count - sum; over < 0 || over >= count {
			t.Fatalf("MeanUp(%v) is %+v, of a sum of %d", list, got, sum)
		} else if over == 0 {
			even++
		} else {
			rounded++
		}
		slices.Sort(list)
		wantInt(t, "the same in another order", impl.MeanUp(list), got.Value)
		same := slices.Repeat([]int64{list[0]}, len(list))
		wantInt(t, "all the same", impl.MeanUp(same), list[0])
	}
	if even < 100 || rounded < 1000 {
		t.Errorf("%d sums divide, and %d do not", even, rounded)
	}
}

func TestPairsLostByHand(t *testing.T) {
	rows := []struct {
		name   string
		floors int64
		zones  []int64
		want   []int64
	}{
		{"the example", 3, []int64{3, 5}, []int64{14}},
		{"all in one zone", 3, []int64{7}, nil},
		{"all pairs, each by its own zone", 3, []int64{3, 5, 6}, nil},
		{"all in one of three", 3, []int64{1, 7, 2}, nil},
		{"one zone of a floor", 3, []int64{1}, []int64{1, 2, 14}},
		{"one of the highest floor", 3, []int64{4}, []int64{1, 2, 14}},
		{"zones of a floor each", 3, []int64{1, 2, 4}, []int64{1, 2, 14}},
		{"one zone of two floors", 3, []int64{3}, []int64{2, 14}},
		{"one of the highest two", 3, []int64{6}, []int64{1, 2}},
		{"one of the lowest and the highest", 3, []int64{5}, []int64{1, 14}},
		{"two floors, served", 2, []int64{3}, nil},
		{"two floors, lost", 2, []int64{1, 2}, []int64{1}},
		{"four floors, all lost", 4, []int64{1}, []int64{1, 2, 3, 14, 15, 27}},
		{"four floors, neighbours", 4, []int64{3, 6, 12}, []int64{2, 3, 15}},
		{"four floors, the same backwards", 4, []int64{12, 6, 3}, []int64{2, 3, 15}},
		{"zones that overlap", 4, []int64{7, 14}, []int64{3}},
		{"the same zone twice", 4, []int64{7, 7}, []int64{3, 15, 27}},
		{"halves", 4, []int64{3, 12}, []int64{2, 3, 14, 15}},
		{"six zones", 4, []int64{3, 5, 9, 6, 10, 12}, nil},
		{"five of them", 4, []int64{3, 5, 9, 6, 12}, []int64{15}},
		{"twelve floors, all served", 12, []int64{4095}, nil},
		{"twelve floors, but the highest", 12, []int64{2047}, []int64{11, 23, 35, 47, 59, 71, 83, 95, 107, 119, 131}},
		{"twelve floors, but the lowest", 12, []int64{4094}, []int64{1, 2, 3, 4, 5, 6, 7, 8, 9, 10, 11}},
	}
	for _, r := range rows {
		wantInts(t, r.name, impl.PairsLost(storeys(r.floors), r.zones), impl.OK, r.want...)
	}
	if got := impl.PairsLost(storeys(12), []int64{1}); got.Code != impl.OK || len(got.List) != 66 || got.List[0] != 1 || got.List[65] != 131 {
		t.Errorf("twelve floors, all lost: %+v", got)
	}
}

func TestPairsLostWithFaults(t *testing.T) {
	h := exampleHouse()
	rows := []struct {
		name  string
		zones []int64
		want  int64
	}{
		{"no list", nil, impl.ErrMany},
		{"no zone", []int64{}, impl.ErrMany},
		{"seven zones", slices.Repeat([]int64{7}, 7), impl.ErrMany},
		{"seven zones, all wrong", slices.Repeat([]int64{-1}, 7), impl.ErrMany},
		{"below 0", []int64{-1}, impl.ErrRange},
		{"a floor too high", []int64{8}, impl.ErrRange},
		{"the last one", []int64{7, 7, 8}, impl.ErrRange},
		{"the least", []int64{least}, impl.ErrRange},
		{"the greatest", []int64{greatest}, impl.ErrRange},
		{"one without a floor", []int64{0}, impl.ErrForm},
		{"one without a floor, among others", []int64{7, 0, 3}, impl.ErrForm},
		{"without a floor, and a wrong one behind", []int64{0, 8}, impl.ErrRange},
		{"without a floor, and seven", make([]int64, 7), impl.ErrMany},
	}
	for _, r := range rows {
		wantInts(t, r.name, impl.PairsLost(h, r.zones), r.want)
	}
	wantInts(t, "six zones", impl.PairsLost(h, slices.Repeat([]int64{7}, 6)), impl.OK)
}

func (z zoning) lost(zones []int64) impl.IntsResult {
	if fault := z.zonesFault(zones); fault != impl.OK {
		return impl.IntsResult{Code: fault}
	}
	var list []int64
	for pair := range int64(12 * 12) {
		lower, higher := pair/12, pair%12
		if lower < higher && higher < z.house.Floors && len(z.served(zones, lower, higher).List) == 0 {
			list = append(list, pair)
		}
	}
	return impl.IntsResult{List: list}
}

func (z zoning) holdsLost(t *testing.T, zones []int64) {
	t.Helper()
	if got, want := impl.PairsLost(z.house, zones), z.lost(zones); !sameInts(got, want) {
		t.Fatalf("PairsLost(%+v, %v) is %+v, not %+v", z.house, zones, got, want)
	}
}

func TestPairsLostOfSmallHouses(t *testing.T) {
	for _, r := range []struct{ floors, longest int64 }{{2, 4}, {3, 3}, {4, 2}} {
		z := zoningOf(storeys(r.floors))
		for length := range r.longest + 1 {
			for _, zones := range listsOf(int(length), upFrom(-1, z.topMask()+1)) {
				z.holdsLost(t, zones)
			}
		}
	}
}

func TestPairsLostOfAllKinds(t *testing.T) {
	d := &dice{state: 56}
	for range 1500 {
		z := zoningOf(storeys(d.upTo(2, 12)))
		zones := d.zones(z.house)
		z.holdsLost(t, zones)
		numbers := append(outside(0, z.topMask()), 0)
		zones[d.upTo(0, int64(len(zones))-1)] = numbers[d.upTo(0, 8)]
		z.holdsLost(t, zones)
	}
}

// What a car of its own serves is never lost; of split zones all pairs are that
// lie in two of them, but for those with floor 0.
func TestPairsLostOfSplitZones(t *testing.T) {
	for floors := int64(2); floors <= 12; floors++ {
		h := storeys(floors)
		wantInts(t, "one car", impl.PairsLost(h, impl.SplitZones(h, 1).List), impl.OK)
		for cars := int64(1); cars <= 6; cars++ {
			z := zoningOf(h)
			zones := impl.SplitZones(h, cars).List
			z.holdsLost(t, zones)
			for _, pair := range impl.PairsLost(h, zones).List {
				if pair < 12 {
					t.Errorf("%d floors, %d cars: floor 0 is lost from %d", floors, cars, pair)
				}
			}
		}
	}
}

// farHouse is one without a fault that may be far too wide for MaxTicks.
func (d *dice) farHouse() impl.House {
	h := d.house()
	switch d.upTo(0, 2) {
	case 0:
		h.Gap, h.Refuge = d.upTo(h.Gap, 20000), d.upTo(h.Refuge, 20000)
	case 1:
		h.Gap = d.upTo(h.Gap, 6*h.Gap)
	}
	return h
}

// isEven holds promise 15 for one flight, up and down.
func isEven(t *testing.T, h impl.House, from, to int64) impl.IntResult {
	t.Helper()
	up, down, bound := impl.FlightTicks(h, from, to), impl.FlightTicks(h, to, from), impl.RunBound(h).Value
	if up != down {
		t.Fatalf("%+v: from %d to %d %+v, and back %+v", h, from, to, up, down)
	}
	if bound <= impl.MaxTicks && (up.Code != impl.OK || up.Value > bound) {
		t.Fatalf("%+v: from %d to %d %+v, and the bound is %d", h, from, to, up, bound)
	}
	if up.Code == impl.OK && (up.Value == 0) != (from == to) {
		t.Fatalf("%+v: from %d to %d %+v", h, from, to, up)
	}
	return up
}

// Promise 15, over many houses.
func TestFlightsTakeAsLongUpAsDown(t *testing.T) {
	d := &dice{state: 57}
	houses := append(rightHouses(), heavyHouse(), crawlHouse(), softHouse(), evenHouse(), strongHouse(), driftHouse(), smallHouse(), farRefuges())
	for range 150 {
		houses = append(houses, d.farHouse())
	}
	done, over := 0, 0
	for _, h := range houses {
		for from := int64(-1); from <= h.Floors; from++ {
			for to := from; to <= h.Floors; to++ {
				if isEven(t, h, from, to).Code == impl.OK {
					done++
				} else {
					over++
				}
			}
		}
	}
	if done < 3000 || over < 100 {
		t.Errorf("%d flights were done in MaxTicks, and %d were not", done, over)
	}
}

// A flight over more floors takes no fewer ticks.
func TestFartherFlightsTakeLonger(t *testing.T) {
	d := &dice{state: 58}
	for range 150 {
		h := d.house()
		for _, row := range impl.FlightTable(h).Rows[:1] {
			if !slices.IsSorted(row) {
				t.Fatalf("FlightTable(%+v) begins with %v", h, row)
			}
		}
	}
}

func (d *dice) stops(h impl.House) []int64 {
	var stops []int64
	for range d.upTo(0, 30) {
		stops = append(stops, d.upTo(0, h.Floors-1))
	}
	return stops
}

// Promise 15: trips add up, of their flights and doors, and of their parts.
func TestTripsAddUp(t *testing.T) {
	d := &dice{state: 59}
	for range 200 {
		h := d.farHouse()
		h.Door = d.upTo(1, 20)
		table := impl.FlightTable(h)
		if table.Code != impl.OK {
			continue
		}
		for range 3 {
			stops := d.stops(h)
			sum := 2 * h.Door * int64(len(stops))
			for k := 1; k < len(stops); k++ {
				sum += table.Rows[stops[k-1]][stops[k]]
			}
			wantInt(t, fmt.Sprintf("TripTicks(%+v, %v)", h, stops), impl.TripTicks(h, stops), sum)
			for k := range stops {
				parts := impl.TripTicks(h, stops[:k+1]).Value + impl.TripTicks(h, stops[k:]).Value
				wantInt(t, "its parts, with one stop in both", impl.TripTicks(h, stops), parts-2*h.Door)
			}
			slices.Reverse(stops)
			wantInt(t, "the other way round", impl.TripTicks(h, stops), sum)
		}
	}
}

func TestTripsOfAllKinds(t *testing.T) {
	d := &dice{state: 60}
	done, over := 0, 0
	for range 150 {
		r := reckoningOf(d.farHouse())
		for range 4 {
			stops := d.stops(r.house)
			r.holdsTrip(t, stops)
			if r.trip(stops).Code == impl.OK {
				done++
			} else {
				over++
			}
			if len(stops) > 0 {
				numbers := outside(0, r.house.Floors-1)
				stops[d.upTo(0, int64(len(stops))-1)] = numbers[d.upTo(0, 7)]
				r.holdsTrip(t, stops)
			}
		}
	}
	if done < 200 || over < 20 {
		t.Errorf("%d trips were done, and %d were not", done, over)
	}
}

// What is handled grows with the ticks, a peak with the people, and in the ticks
// of a peak all its people are handled.
func TestPeaksAreHandled(t *testing.T) {
	d := &dice{state: 61}
	for range 400 {
		h := d.house()
		h.Load = d.upTo(1, 20)
		people := d.upTo(0, 3000)
		peak := impl.UpPeak(h, people).Value
		if handled := impl.HandledIn(h, peak).Value; handled < people || handled >= people+h.Load {
			t.Fatalf("%+v: %d people in %d ticks, in which %d are handled", h, people, peak, handled)
		}
		if people > 0 && impl.HandledIn(h, peak-1).Value >= people {
			t.Fatalf("%+v: %d people in %d ticks, but one fewer is enough", h, people, peak)
		}
	}
}

// trafficLists are all that are given a list; what is no list is told as one.
func trafficLists() []listCall {
	told := func(r impl.IntResult) impl.IntsResult { return impl.IntsResult{Code: r.Code, List: []int64{r.Value}} }
	return []listCall{
		{"TripTicks", func(h impl.House, list []int64) impl.IntsResult { return told(impl.TripTicks(h, list)) }},
		{"MeanUp", func(_ impl.House, list []int64) impl.IntsResult { return told(impl.MeanUp(list)) }},
		{"PairsLost", impl.PairsLost},
	}
}

// Lists with room behind them, which an append would fill: none is changed, and
// what they become afterwards leaves the answers as they were.
func TestTrafficSharesNoMemory(t *testing.T) {
	lists := [][]int64{
		nil, {0}, {1}, {7}, {2, 1}, {3, 5}, {1, 2, 4}, {2, 1, 0}, {-1, 1}, {1, 9}, {0, 2, 0, 2}, {1, 1, 1, 1, 1, 1},
		make([]int64, 30), make([]int64, 31), make([]int64, 60), make([]int64, 61), slices.Repeat([]int64{2, 0}, 15),
	}
	for _, f := range trafficLists() {
		for _, h := range []impl.House{exampleHouse(), storeys(12), crawlHouse(), nearHouse()} {
			for _, list := range lists {
				given := roomy(list)
				all := given[:cap(given)]
				before := slices.Clone(all)
				first, second := f.call(h, given), f.call(h, given)
				kept := slices.Clone(second.List)
				spoilInts(first.List)
				if !slices.Equal(all, before) || !slices.Equal(second.List, kept) {
					t.Errorf("%s of %v: its argument or another answer is changed", f.name, list)
				}
				spoilInts(all)
				if first.Code != second.Code || !slices.Equal(second.List, kept) || !sameInts(f.call(h, list), second) {
					t.Errorf("%s of %v: its answer shares memory: %v, then %v", f.name, list, kept, second.List)
				}
			}
		}
	}
}

// Rows of one table share no memory, nor do those of two.
func TestTablesShareNoMemory(t *testing.T) {
	for _, h := range append(rightHouses(), storeys(2), storeys(12)) {
		before := h
		first, second := impl.FlightTable(h), impl.FlightTable(h)
		want := reckoningOf(h).table()
		for from := range first.Rows {
			spoilInts(first.Rows[from])
			for other := from + 1; other < len(first.Rows); other++ {
				if !slices.Equal(first.Rows[other], want.Rows[other]) {
					t.Fatalf("%+v: row %d of the table shares memory with row %d", h, from, other)
				}
			}
		}
		clear(first.Rows)
		wantTable(t, "the second table", second, want)
		wantTable(t, "a third one", impl.FlightTable(h), want)
		if h != before {
			t.Errorf("%+v became %+v", before, h)
		}
	}
}

func TestTrafficChangesNoHouse(t *testing.T) {
	for _, r := range allReckonings() {
		h := r.house
		impl.FlightTicks(h, 0, 1)
		impl.FlightTable(h)
		impl.TripTicks(h, []int64{0, 1})
		impl.HandledIn(h, 500)
		impl.PairsLost(h, []int64{3, 1})
		impl.LongestFlight(h)
		impl.UpPeak(h, 5)
		if h != r.house {
			t.Fatalf("%+v became %+v", r.house, h)
		}
	}
}

func TestNoStopsAndNoNumbers(t *testing.T) {
	full := []int64{1, 2, 3}
	for _, f := range trafficLists() {
		for _, h := range append(rightHouses(), faultyHouses()...) {
			for _, empty := range [][]int64{{}, make([]int64, 0, 9), full[:0]} {
				if a, b := f.call(h, nil), f.call(h, empty); !sameInts(a, b) {
					t.Errorf("%s of nil is %+v, of an empty list %+v", f.name, a, b)
				}
			}
		}
	}
}

// trafficAnswersEverywhere tells answers as texts, since lists are not compared.
func trafficAnswersEverywhere() []string {
	var list []string
	numbers := []int64{least, -big1, -2, -1, 0, 1, 2, 3, 5, 12, 60, 1000000, 1000001, 1 << 32, big1, big1 + 1, greatest}
	for _, h := range append(housesOfAllKinds(), crawlHouse(), slowHouse(3, 1500)) {
		list = append(list, fmt.Sprint(impl.FlightTable(h), impl.LongestFlight(h)))
		for _, a := range numbers {
			list = append(list, fmt.Sprint(impl.HandledIn(h, a), impl.UpPeak(h, a)))
			for i, b := range numbers {
				given := slices.Repeat([]int64{a, b}, 2*i)[:2*i]
				list = append(list, fmt.Sprint(
					impl.FlightTicks(h, a, b), impl.TripTicks(h, []int64{a, b}), impl.TripTicks(h, given), impl.MeanUp([]int64{a, b}),
					impl.MeanUp(given), impl.MeanUp(slices.Repeat([]int64{b}, 60)), impl.PairsLost(h, []int64{a, b}), impl.PairsLost(h, given)))
			}
		}
	}
	return list
}

// Every call of chapter 14 answers whatever it is given, and the same again when
// other calls stood between.
func TestTrafficAnswersEverywhere(t *testing.T) {
	sameTwice(t, trafficAnswersEverywhere)
}
