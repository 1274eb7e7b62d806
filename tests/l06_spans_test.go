package tests

import (
	"testing"

	"loop.example/g00155/impl"
)

// keeping is what the document tells of floors that are kept free, worked out
// the plain way: floor by floor.
type keeping struct {
	plant
}

func keepingOf(h impl.House) keeping {
	return keeping{plantOf(h)}
}

func allKeepings() []keeping {
	list := []keeping{keepingOf(smallHouse()), keepingOf(driftHouse())}
	for _, p := range allPlants() {
		list = append(list, keeping{p})
	}
	return list
}

func spansOf(a, b, c, d int64) impl.Spans {
	return impl.Spans{Lower: impl.Span{Low: a, High: b}, Upper: impl.Span{Low: c, High: d}}
}

func (k keeping) isFloor(floor int64) bool {
	return floor >= -1 && floor <= k.house.Floors
}

func (k keeping) spansFault(x impl.Spans) int64 {
	if k.plan.fault != impl.OK {
		return k.plan.fault
	}
	ends := []int64{x.Lower.Low, x.Lower.High, x.Upper.Low, x.Upper.High}
	for _, end := range ends {
		if !k.isFloor(end) {
			return impl.ErrRange
		}
	}
	if ends[0] <= ends[1] && ends[1] < ends[2] && ends[2] <= ends[3] {
		return impl.OK
	}
	return impl.ErrForm
}

func (k keeping) cover(c impl.Car) impl.Span {
	low, high := k.ends(c)
	cover := impl.Span{Low: -1, High: k.house.Floors}
	for i, place := range k.plan.places {
		if place <= low+k.house.Level {
			cover.Low = int64(i) - 1
		}
	}
	for i, place := range k.plan.places {
		if place >= high-k.house.Level {
			cover.High = int64(i) - 1
			break
		}
	}
	return cover
}

// floorFor is the floor at which a car is, brought between the refuges first.
func (k keeping) floorFor(c impl.Car) int64 {
	last := len(k.plan.places) - 1
	return k.plan.floorNear(min(max(c.Pos, k.plan.places[0]), k.plan.places[last]))
}

func (k keeping) sensed(s impl.Shaft) impl.SpansResult {
	if fault := k.shaftFault(s); fault != impl.OK {
		return impl.SpansResult{Code: fault}
	}
	a, b := k.floorFor(s.Lower), k.floorFor(s.Upper)
	if b <= a {
		b = a + 1
	}
	if b > k.house.Floors {
		a, b = a-1, b-1
	}
	return impl.SpansResult{Spans: spansOf(a, a, b, b)}
}

func (k keeping) goals(s impl.Shaft, lead, goal, other int64) impl.GoalsResult {
	if fault := k.shaftFault(s); fault != impl.OK {
		return impl.GoalsResult{Code: fault}
	}
	if lead != 0 && lead != 1 || goal < 0 || goal >= k.house.Floors || other < -2 || other > k.house.Floors {
		return impl.GoalsResult{Code: impl.ErrRange}
	}
	if lead == 0 {
		aside := goal + 1
		if at := k.floorFor(s.Upper); at > goal {
			aside = at
		}
		if other > goal {
			aside = other
		}
		return impl.GoalsResult{Lower: goal, Upper: aside}
	}
	aside := goal - 1
	if at := k.floorFor(s.Lower); at < goal {
		aside = at
	}
	if other < goal && other != -2 {
		aside = other
	}
	return impl.GoalsResult{Lower: aside, Upper: goal}
}

func (k keeping) extendFault(x impl.Spans, lower, upper int64) int64 {
	switch fault := k.spansFault(x); {
	case fault != impl.OK:
		return fault
	case !k.isFloor(lower) || !k.isFloor(upper):
		return impl.ErrRange
	case lower >= upper:
		return impl.ErrForm
	}
	return impl.OK
}

// extended takes one floor after the other, each while it is free.
func (k keeping) extended(x impl.Spans, lower, upper int64) impl.SpansResult {
	if fault := k.extendFault(x, lower, upper); fault != impl.OK {
		return impl.SpansResult{Code: fault}
	}
	for x.Lower.Low > lower {
		x.Lower.Low--
	}
	for x.Lower.High < lower && x.Lower.High+1 < x.Upper.Low {
		x.Lower.High++
	}
	for x.Upper.High < upper {
		x.Upper.High++
	}
	for x.Upper.Low > upper && x.Upper.Low-1 > x.Lower.High {
		x.Upper.Low--
	}
	return impl.SpansResult{Spans: x}
}

// cut asks every floor of a span whether it is in the other one, too.
func cut(x, cover impl.Span) impl.Span {
	var both []int64
	for floor := x.Low; floor <= x.High; floor++ {
		if floor >= cover.Low && floor <= cover.High {
			both = append(both, floor)
		}
	}
	if len(both) == 0 {
		return x
	}
	return impl.Span{Low: both[0], High: both[len(both)-1]}
}

func (k keeping) released(x impl.Spans, s impl.Shaft) impl.SpansResult {
	for _, fault := range []int64{k.spansFault(x), k.shaftFault(s)} {
		if fault != impl.OK {
			return impl.SpansResult{Code: fault}
		}
	}
	return impl.SpansResult{Spans: impl.Spans{
		Lower: cut(x.Lower, k.cover(s.Lower)),
		Upper: cut(x.Upper, k.cover(s.Upper)),
	}}
}

func (k keeping) safe(x impl.Spans, lower, upper int64) bool {
	return k.extendFault(x, lower, upper) == impl.OK && (x.Upper.Low > lower || x.Lower.High < upper)
}

func (k keeping) holdsCover(t *testing.T, c impl.Car) {
	t.Helper()
	want := impl.SpansResult{Code: k.carFault(c)}
	if want.Code == impl.OK {
		want.Spans.Lower = k.cover(c)
	}
	if got := impl.CoverOf(k.house, c); got != want {
		t.Fatalf("CoverOf(%+v, %+v) is %+v, not %+v", k.house, c, got, want)
	}
}

// holdsSensed holds SensedSpans, and what it tells against SpansFault.
func (k keeping) holdsSensed(t *testing.T, s impl.Shaft) {
	t.Helper()
	want := k.sensed(s)
	if got := impl.SensedSpans(k.house, s); got != want {
		t.Fatalf("SensedSpans(%+v, %+v) is %+v, not %+v", k.house, s, got, want)
	}
	if want.Code == impl.OK && impl.SpansFault(k.house, want.Spans) != impl.OK {
		t.Fatalf("SensedSpans(%+v, %+v) is %+v, which has a fault", k.house, s, want)
	}
}

// holdsGoals holds GoalsFor, and that its goals are in order and have places.
func (k keeping) holdsGoals(t *testing.T, s impl.Shaft, lead, goal, other int64) {
	t.Helper()
	want := k.goals(s, lead, goal, other)
	got := impl.GoalsFor(k.house, s, lead, goal, other)
	if got != want {
		t.Fatalf("GoalsFor(%+v, %+v, %d, %d, %d) is %+v, not %+v", k.house, s, lead, goal, other, got, want)
	}
	if got.Code == impl.OK && (got.Lower >= got.Upper || !k.isFloor(got.Lower) || !k.isFloor(got.Upper)) {
		t.Fatalf("GoalsFor(%+v, %+v, %d, %d, %d) is %+v: out of order", k.house, s, lead, goal, other, got)
	}
}

func (k keeping) holdsExtended(t *testing.T, x impl.Spans, lower, upper int64) {
	t.Helper()
	want := k.extended(x, lower, upper)
	if got := impl.ExtendSpans(k.house, x, lower, upper); got != want {
		t.Fatalf("ExtendSpans(%+v, %+v, %d, %d) is %+v, not %+v", k.house, x, lower, upper, got, want)
	}
	if got := impl.SafeSpans(k.house, x, lower, upper); got != k.safe(x, lower, upper) {
		t.Fatalf("SafeSpans(%+v, %+v, %d, %d) is %t", k.house, x, lower, upper, got)
	}
}

func (k keeping) holdsReleased(t *testing.T, x impl.Spans, s impl.Shaft) {
	t.Helper()
	want := k.released(x, s)
	if got := impl.ReleaseSpans(k.house, x, s); got != want {
		t.Fatalf("ReleaseSpans(%+v, %+v, %+v) is %+v, not %+v", k.house, x, s, got, want)
	}
	if want.Code == impl.OK && impl.SpansFault(k.house, want.Spans) != impl.OK {
		t.Fatalf("ReleaseSpans(%+v, %+v, %+v) is %+v, which has a fault", k.house, x, s, want)
	}
}

func TestSpansOfAllEdges(t *testing.T) {
	for _, k := range allKeepings() {
		edges := k.edgeFloors()
		for _, a := range edges {
			for _, b := range edges {
				for _, c := range edges {
					for _, d := range edges {
						x := spansOf(a, b, c, d)
						if got, want := impl.SpansFault(k.house, x), k.spansFault(x); got != want {
							t.Fatalf("SpansFault(%+v, %+v) is %d, not %d", k.house, x, got, want)
						}
					}
				}
			}
		}
	}
}

func TestSpansFaultByHand(t *testing.T) {
	h := exampleHouse()
	rows := []struct {
		name string
		x    impl.Spans
		want int64
	}{
		{"all floors", spansOf(-1, 1, 2, 3), impl.OK},
		{"one floor each", spansOf(-1, -1, 0, 0), impl.OK},
		{"a floor between them", spansOf(0, 0, 2, 2), impl.OK},
		{"both in the refuges", spansOf(-1, -1, 3, 3), impl.OK},
		{"the highest that there are", spansOf(2, 2, 3, 3), impl.OK},
		{"Low of Lower below", spansOf(-2, 0, 1, 1), impl.ErrRange},
		{"Low of Lower above", spansOf(4, 0, 1, 1), impl.ErrRange},
		{"High of Lower below", spansOf(0, -2, 1, 1), impl.ErrRange},
		{"High of Lower above", spansOf(0, 4, 1, 1), impl.ErrRange},
		{"Low of Upper below", spansOf(0, 0, -2, 1), impl.ErrRange},
		{"Low of Upper above", spansOf(0, 0, 4, 1), impl.ErrRange},
		{"High of Upper below", spansOf(0, 0, 1, -2), impl.ErrRange},
		{"High of Upper above", spansOf(0, 0, 1, 4), impl.ErrRange},
		{"Lower turned", spansOf(1, 0, 2, 3), impl.ErrForm},
		{"Upper turned", spansOf(0, 0, 3, 2), impl.ErrForm},
		{"both turned", spansOf(1, 0, 3, 2), impl.ErrForm},
		{"they meet", spansOf(0, 1, 1, 2), impl.ErrForm},
		{"they cross", spansOf(0, 2, 1, 3), impl.ErrForm},
		{"Lower above Upper", spansOf(2, 3, 0, 1), impl.ErrForm},
		{"the zero value", impl.Spans{}, impl.ErrForm},
		{"range ahead of form: the last number", spansOf(1, 0, 0, 4), impl.ErrRange},
		{"range ahead of form: the first number", spansOf(-2, 3, 0, 0), impl.ErrRange},
		{"the least numbers", spansOf(least, least, least, least), impl.ErrRange},
		{"the greatest numbers", spansOf(greatest, greatest, greatest, greatest), impl.ErrRange},
	}
	for _, r := range rows {
		if got := impl.SpansFault(h, r.x); got != r.want {
			t.Errorf("%s: SpansFault is %d", r.name, got)
		}
	}
	if got := impl.SpansFault(nearHouse(), spansOf(-2, 0, 1, 1)); got != impl.ErrForm {
		t.Errorf("a house that is too near, ahead of a span beyond it: SpansFault is %d", got)
	}
	if got := impl.SpansFault(outHouse(), spansOf(1, 0, 2, 3)); got != impl.ErrRange {
		t.Errorf("a house beyond its bounds, ahead of a span turned: SpansFault is %d", got)
	}
}

// justStops are places from which a car of that speed stops where a floor just
// begins or ends to be covered.
func (k keeping) justStops(vel int64) []int64 {
	var list []int64
	low, high := k.ends(impl.Car{Vel: vel})
	for _, place := range k.plan.places {
		for _, stop := range around(place-k.house.Level, place+k.house.Level) {
			list = append(list, stop, stop-low, stop-high)
		}
	}
	return list
}

func TestCoversOfAllEdges(t *testing.T) {
	for _, k := range allKeepings() {
		for _, c := range k.fewCars() {
			k.holdsCover(t, c)
		}
		for _, vel := range k.edgeSpeeds() {
			for _, pos := range k.edgePlaces() {
				k.holdsCover(t, impl.Car{Pos: pos, Vel: vel})
				k.holdsCover(t, impl.Car{Pos: pos, Vel: vel, Door: 1})
			}
		}
		for vel := -k.house.Speed; vel <= k.house.Speed; vel++ {
			for _, pos := range k.justStops(vel) {
				k.holdsCover(t, impl.Car{Pos: pos, Vel: vel})
			}
		}
	}
}

func TestCoversFromEveryPlaceAtEverySpeed(t *testing.T) {
	for _, h := range []impl.House{leastHouse(), smallHouse(), oddHouse(), deepHouse()} {
		k := keepingOf(h)
		for pos := k.plan.low - 1; pos <= k.plan.high+1; pos++ {
			for vel := -h.Speed - 1; vel <= h.Speed+1; vel++ {
				k.holdsCover(t, impl.Car{Pos: pos, Vel: vel})
			}
		}
	}
}

// The floors of the example are at 0, 400 and 800, its refuges at -300 and
// 1100, and Level is 2. Who brakes from 40 goes 30, 20 and 10, from 50 100.
func TestCoversByHand(t *testing.T) {
	h := exampleHouse()
	rows := []struct {
		name      string
		car       impl.Car
		low, high int64
	}{
		{"at a floor", standing(400), 1, 1},
		{"at a floor, its door open", impl.Car{Pos: 400, Door: 2}, 1, 1},
		{"just below a floor", standing(398), 1, 1},
		{"one lower", standing(397), 0, 1},
		{"just above a floor", standing(402), 1, 1},
		{"one higher", standing(403), 1, 2},
		{"between two", standing(200), 0, 1},
		{"just below the lowest floor", standing(-2), 0, 0},
		{"between it and the refuge", standing(-3), -1, 0},
		{"just above the refuge below", standing(-298), -1, -1},
		{"one higher than that", standing(-297), -1, 0},
		{"in the refuge below", standing(-300), -1, -1},
		{"just within it", standing(-302), -1, -1},
		{"below it", standing(-303), -1, -1},
		{"at LowEnd", standing(-452), -1, -1},
		{"just above the highest floor", standing(802), 2, 2},
		{"between it and the refuge above", standing(803), 2, 3},
		{"just below the refuge above", standing(1098), 3, 3},
		{"one lower than that", standing(1097), 2, 3},
		{"in the refuge above", standing(1100), 3, 3},
		{"just within that", standing(1102), 3, 3},
		{"above it", standing(1103), 3, 3},
		{"at HighEnd", standing(1252), 3, 3},
		{"up, and stops just at a floor's Level", impl.Car{Pos: 342, Vel: 40}, 0, 1},
		{"up, and stops one above", impl.Car{Pos: 343, Vel: 40}, 0, 2},
		{"up from a floor", impl.Car{Vel: 40}, 0, 1},
		{"up, but can stop at once", impl.Car{Pos: 2, Vel: 10}, 0, 0},
		{"up from just below a floor", impl.Car{Pos: 398, Vel: 50}, 1, 2},
		{"up from one lower", impl.Car{Pos: 397, Vel: 50}, 0, 2},
		{"down, and stops just at a floor's Level", impl.Car{Pos: 458, Vel: -40}, 1, 2},
		{"down, and stops one below", impl.Car{Pos: 457, Vel: -40}, 0, 2},
		{"down from a floor", impl.Car{Pos: 400, Vel: -40}, 0, 1},
		{"down, but can stop at once", impl.Car{Pos: 398, Vel: -10}, 1, 1},
		{"down from just above a floor", impl.Car{Pos: 402, Vel: -50}, 0, 1},
		{"down from one higher", impl.Car{Pos: 403, Vel: -50}, 0, 2},
		{"up, beyond the refuge", impl.Car{Pos: 1050, Vel: 50}, 2, 3},
		{"up, from there on", impl.Car{Pos: 1100, Vel: 50}, 3, 3},
		{"up, beyond HighEnd", impl.Car{Pos: 1252, Vel: 50}, 3, 3},
		{"down, beyond the refuge", impl.Car{Pos: -250, Vel: -50}, -1, 0},
		{"down, from there on", impl.Car{Pos: -300, Vel: -50}, -1, -1},
		{"down, beyond LowEnd", impl.Car{Pos: -452, Vel: -50}, -1, -1},
		{"back from beyond the refuge below", impl.Car{Pos: -400, Vel: 50}, -1, -1},
		{"back from there, farther", impl.Car{Pos: -397, Vel: 50}, -1, 0},
		{"back from beyond the refuge above", impl.Car{Pos: 1198, Vel: -50}, 3, 3},
		{"back from there, farther", impl.Car{Pos: 1197, Vel: -50}, 2, 3},
	}
	for _, r := range rows {
		want := impl.SpansResult{Spans: impl.Spans{Lower: impl.Span{Low: r.low, High: r.high}}}
		if got := impl.CoverOf(h, r.car); got != want {
			t.Errorf("%s: CoverOf is %+v", r.name, got)
		}
	}
}

// A house that stands on its head is the same house: so are its covers.
func TestCoversTurnedRound(t *testing.T) {
	for _, k := range allKeepings() {
		top := k.house.Floors - 1
		for _, vel := range k.edgeSpeeds() {
			for _, pos := range k.edgePlaces() {
				c := impl.Car{Pos: pos, Vel: vel}
				if k.carFault(c) != impl.OK {
					continue
				}
				a, b := impl.CoverOf(k.house, c).Spans.Lower, impl.CoverOf(k.house, turned(k.house, c)).Spans.Lower
				if b != (impl.Span{Low: top - a.High, High: top - a.Low}) {
					t.Fatalf("CoverOf(%+v, %+v) is %+v, but turned round %+v", k.house, c, a, b)
				}
			}
		}
	}
}

// midPlaces are those as near as may be to the middle between two floors.
func (k keeping) midPlaces() []int64 {
	var list []int64
	for i := 1; i < len(k.plan.places); i++ {
		list = append(list, around((k.plan.places[i-1]+k.plan.places[i])/2)...)
	}
	return list
}

// seenShafts are of two cars of which the lower one is about everywhere, and
// the upper one as near as may be, at another floor, or at an end.
func (k keeping) seenShafts() []impl.Shaft {
	if k.plan.fault != impl.OK {
		return []impl.Shaft{{}, {Upper: standing(k.house.Length)}, {Lower: standing(least), Upper: standing(greatest)}}
	}
	var list []impl.Shaft
	places := append(k.midPlaces(), k.plan.places...)
	places = append(places, k.plan.low, k.plan.high, k.plan.low+1, k.plan.high-k.house.Length)
	for _, a := range places {
		for _, b := range append([]int64{a, a + k.house.Length, a + k.house.Length - 1}, places...) {
			list = append(list, impl.Shaft{Lower: standing(a), Upper: standing(b)})
		}
		list = append(list, impl.Shaft{Lower: impl.Car{Pos: a, Door: 1}, Upper: impl.Car{Pos: k.plan.high, Door: k.house.Door}})
		list = append(list, impl.Shaft{Lower: impl.Car{Pos: a, Vel: 1}, Upper: impl.Car{Pos: k.plan.places[k.house.Floors+1], Vel: -1}})
	}
	return list
}

func TestSensedOfAllEdges(t *testing.T) {
	for _, k := range allKeepings() {
		for _, s := range append(k.seenShafts(), guardOf(k.house).nearShafts()...) {
			k.holdsSensed(t, s)
		}
		for _, lower := range k.fewCars() {
			for _, upper := range append(k.fewCars(), standing(k.plan.high-1)) {
				k.holdsSensed(t, impl.Shaft{Lower: lower, Upper: upper})
			}
		}
	}
}

func TestSensedFromEveryPlace(t *testing.T) {
	for _, h := range []impl.House{leastHouse(), smallHouse()} {
		k := keepingOf(h)
		for a := k.plan.low - 1; a <= k.plan.high+1; a++ {
			for b := k.plan.low - 1; b <= k.plan.high+1; b++ {
				k.holdsSensed(t, impl.Shaft{Lower: standing(a), Upper: standing(b)})
			}
		}
	}
}

func TestSensedByHand(t *testing.T) {
	h := exampleHouse()
	rows := []struct {
		name         string
		lower, upper impl.Car
		a, b         int64
	}{
		{"at the outermost floors", standing(0), standing(800), 0, 2},
		{"at floors next to each other", standing(400), standing(800), 1, 2},
		{"near floors", standing(199), standing(601), 0, 2},
		{"as near to the one below", standing(200), standing(600), 0, 1},
		{"in the refuges", standing(-300), standing(1100), -1, 3},
		{"both in and about the refuge below", standing(-350), standing(-250), -1, 0},
		{"both nearest floor 0", standing(-50), standing(50), 0, 1},
		{"both nearest floor 1", standing(350), standing(450), 1, 2},
		{"both nearest floor 2", standing(750), standing(850), 2, 3},
		{"both nearest the refuge above", standing(1000), standing(1100), 2, 3},
		{"both just nearest the refuge above", standing(951), standing(1051), 2, 3},
		{"the lower one as near to floor 2", standing(950), standing(1050), 2, 3},
		{"beyond both refuges", standing(-452), standing(1252), -1, 3},
		{"one below the refuge", standing(-301), standing(800), -1, 2},
		{"one above the refuge", standing(400), standing(1101), 1, 3},
		{"both beyond the refuge below", standing(-452), standing(-352), -1, 0},
		{"both beyond the refuge above", standing(1152), standing(1252), 2, 3},
		{"they move", impl.Car{Pos: 190, Vel: 40}, impl.Car{Pos: 610, Vel: -40}, 0, 2},
		{"doors open", impl.Car{Pos: 1, Door: 2}, impl.Car{Pos: 399, Door: 1}, 0, 1},
	}
	for _, r := range rows {
		want := impl.SpansResult{Spans: spansOf(r.a, r.a, r.b, r.b)}
		if got := impl.SensedSpans(h, impl.Shaft{Lower: r.lower, Upper: r.upper}); got != want {
			t.Errorf("%s: SensedSpans is %+v", r.name, got)
		}
	}
}

func TestGoalsOfAllEdges(t *testing.T) {
	for _, k := range allKeepings() {
		floors := append(outside(-2, k.house.Floors), -2, -1, 0, 1, k.house.Floors-1, k.house.Floors)
		for _, s := range k.seenShafts() {
			for _, lead := range []int64{-1, 0, 1, 2} {
				for _, goal := range floors {
					for _, other := range floors {
						k.holdsGoals(t, s, lead, goal, other)
					}
				}
			}
		}
	}
}

// All goals of a house of 12 floors, the cars at all of its floors.
func TestGoalsAtEveryFloor(t *testing.T) {
	h := greatestHouse()
	k := keepingOf(h)
	for i, a := range k.plan.places {
		for _, b := range k.plan.places[i+1:] {
			s := impl.Shaft{Lower: standing(a), Upper: standing(b)}
			for goal := int64(-1); goal <= h.Floors; goal++ {
				for other := int64(-3); other <= h.Floors+1; other++ {
					k.holdsGoals(t, s, 0, goal, other)
					k.holdsGoals(t, s, 1, goal, other)
				}
			}
		}
	}
}

func TestGoalsByHand(t *testing.T) {
	h := exampleHouse()
	rows := []struct {
		name              string
		lower, upper      int64 // where they stand
		lead, goal, other int64
		a, b              int64
	}{
		{"lower leads, the other wants nothing and is on its side", 0, 800, 0, 1, -2, 1, 2},
		{"lower leads, the other wants a floor on its side", 0, 800, 0, 0, 1, 0, 1},
		{"lower leads, the other wants the refuge", 0, 800, 0, 1, 3, 1, 3},
		{"lower leads, the other wants the same floor", 0, 800, 0, 1, 1, 1, 2},
		{"lower leads, the other wants a floor on the wrong side", 0, 800, 0, 1, 0, 1, 2},
		{"lower leads, the other wants the refuge on the wrong side", 0, 800, 0, 1, -1, 1, 2},
		{"lower leads, the other is at goal", 0, 800, 0, 2, -2, 2, 3},
		{"lower leads, the other is at goal and wants it", 0, 400, 0, 1, 1, 1, 2},
		{"lower leads, the other is on the wrong side", 0, 400, 0, 2, -2, 2, 3},
		{"lower leads, the other is far on the wrong side and wants worse", -300, 0, 0, 1, -1, 1, 2},
		{"lower leads, what is wanted goes ahead of where it is", 0, 1100, 0, 0, 2, 0, 2},
		{"lower leads to the floor where it is", 0, 800, 0, 0, -2, 0, 2},
		{"lower leads, the other is beyond the refuge", 0, 1252, 0, 2, -2, 2, 3},
		{"lower leads, the other is nearest a floor on its side", 0, 601, 0, 1, -2, 1, 2},
		{"lower leads, the other is as near to goal", 0, 600, 0, 1, -2, 1, 2},
		{"lower leads, the other is as near to goal, and is next to it", 0, 950, 0, 2, -2, 2, 3},
		{"upper leads, the other wants nothing and is on its side", 0, 800, 1, 1, -2, 0, 1},
		{"upper leads, the other wants a floor on its side", -300, 800, 1, 2, 1, 1, 2},
		{"upper leads, the other wants the refuge", 0, 800, 1, 1, -1, -1, 1},
		{"upper leads, the other wants the same floor", 0, 800, 1, 1, 1, 0, 1},
		{"upper leads, the other wants a floor on the wrong side", 0, 800, 1, 1, 2, 0, 1},
		{"upper leads, the other wants the refuge on the wrong side", 0, 800, 1, 1, 3, 0, 1},
		{"upper leads, the other is at goal", 0, 800, 1, 0, -2, -1, 0},
		{"upper leads, the other is at goal and wants it", 400, 800, 1, 1, 1, 0, 1},
		{"upper leads, the other is on the wrong side", 400, 800, 1, 0, -2, -1, 0},
		{"upper leads, the other is far on the wrong side", 800, 1100, 1, 1, 3, 0, 1},
		{"upper leads, what is wanted goes ahead of where it is", -300, 800, 1, 2, 0, 0, 2},
		{"upper leads, the other is in the refuge", -300, 800, 1, 0, -2, -1, 0},
		{"upper leads, the other is beyond the refuge", -452, 800, 1, 2, -2, -1, 2},
		{"upper leads to the highest floor", 400, 800, 1, 2, -2, 1, 2},
		{"upper leads, the other is nearest goal", 601, 800, 1, 2, -2, 1, 2},
		{"upper leads, the other is as near to the one below", 200, 800, 1, 1, -2, 0, 1},
	}
	for _, r := range rows {
		s := impl.Shaft{Lower: standing(r.lower), Upper: standing(r.upper)}
		if got := impl.GoalsFor(h, s, r.lead, r.goal, r.other); got != (impl.GoalsResult{Lower: r.a, Upper: r.b}) {
			t.Errorf("%s: GoalsFor is %+v", r.name, got)
		}
	}
}

func TestRangesOfGoals(t *testing.T) {
	h := exampleHouse()
	s := impl.FreshShaft(h).Shaft
	rows := []struct {
		lead, goal, other int64
		isWrong           bool
	}{
		{0, 0, 0, false}, {1, 2, 0, false}, {0, 2, -2, false}, {1, 0, 3, false},
		{-1, 0, 0, true}, {2, 0, 0, true}, {0, -1, 0, true}, {0, 3, 0, true}, {1, -1, 0, true}, {1, 3, 0, true},
		{0, 0, -3, true}, {0, 0, 4, true}, {1, 0, -3, true}, {1, 0, 4, true}, {0, -2, -2, true}, {-1, -1, -3, true},
		{least, 0, 0, true}, {greatest, 0, 0, true}, {0, least, 0, true}, {1, greatest, 0, true},
		{0, 0, greatest, true}, {1, 0, least, true},
	}
	for _, r := range rows {
		got := impl.GoalsFor(h, s, r.lead, r.goal, r.other)
		if r.isWrong != (got == impl.GoalsResult{Code: impl.ErrRange}) || !r.isWrong && got.Code != impl.OK {
			t.Errorf("GoalsFor(%d, %d, %d) is %+v", r.lead, r.goal, r.other, got)
		}
	}
}

// rightSpans are all that there are without a fault.
func (k keeping) rightSpans() []impl.Spans {
	var list []impl.Spans
	for a := int64(-1); a <= k.house.Floors; a++ {
		for b := a; b <= k.house.Floors; b++ {
			for c := b + 1; c <= k.house.Floors; c++ {
				for d := c; d <= k.house.Floors; d++ {
					list = append(list, spansOf(a, b, c, d))
				}
			}
		}
	}
	return list
}

func TestExtendedOfAllEdges(t *testing.T) {
	for _, k := range allKeepings() {
		edges := k.edgeFloors()
		few := []int64{-2, -1, 0, 1, k.house.Floors, k.house.Floors + 1}
		for _, lower := range edges {
			for _, upper := range edges {
				for _, a := range few {
					for _, b := range few {
						for _, c := range few {
							for _, d := range few {
								k.holdsExtended(t, spansOf(a, b, c, d), lower, upper)
							}
						}
					}
				}
			}
		}
	}
}

// holds tells whether a span has all of another one in it.
func holds(x, part impl.Span) bool {
	return x.Low <= part.Low && part.High <= x.High
}

// grows holds what is promised of spans that grow: no fault, no floor lost, and
// one of the two cars can come to its goal at once.
func (k keeping) grows(t *testing.T, x impl.Spans, lower, upper int64) {
	t.Helper()
	got := impl.ExtendSpans(k.house, x, lower, upper)
	if fault := impl.SpansFault(k.house, got.Spans); got.Code != impl.OK || fault != impl.OK {
		t.Fatalf("ExtendSpans(%+v, %+v, %d, %d) is %+v, of the fault %d", k.house, x, lower, upper, got, fault)
	}
	if !holds(got.Spans.Lower, x.Lower) || !holds(got.Spans.Upper, x.Upper) {
		t.Fatalf("ExtendSpans(%+v, %+v, %d, %d) is %+v: a span shrinks", k.house, x, lower, upper, got)
	}
	aim, high := impl.AimOf(got.Spans.Lower, lower), impl.AimOf(got.Spans.Upper, upper)
	if !impl.SafeSpans(k.house, x, lower, upper) || aim != lower && high != upper {
		t.Fatalf("%+v, %+v: neither car can come to its goal, %d and %d", k.house, x, lower, upper)
	}
	again := impl.ExtendSpans(k.house, got.Spans, lower, upper)
	if again != got {
		t.Fatalf("ExtendSpans(%+v, %+v, %d, %d) grows on, to %+v", k.house, got.Spans, lower, upper, again)
	}
}

// All spans without a fault of houses with few and with many floors, with all
// goals.
func TestSpansGrowApart(t *testing.T) {
	for _, h := range []impl.House{smallHouse(), exampleHouse(), oddHouse(), greatestHouse()} {
		k := keepingOf(h)
		for _, x := range k.rightSpans() {
			for lower := int64(-1); lower <= h.Floors; lower++ {
				for upper := int64(-1); upper <= h.Floors; upper++ {
					k.holdsExtended(t, x, lower, upper)
					if lower < upper {
						k.grows(t, x, lower, upper)
					}
				}
			}
		}
	}
}

func TestExtendedByHand(t *testing.T) {
	rows := []struct {
		name         string
		x            impl.Spans
		lower, upper int64
		want         impl.Spans
	}{
		{"both up, all the way", spansOf(0, 0, 3, 3), 2, 5, spansOf(0, 2, 3, 5)},
		{"both down, all the way", spansOf(1, 1, 4, 4), -1, 2, spansOf(-1, 1, 2, 4)},
		{"apart", spansOf(1, 1, 3, 3), -1, 5, spansOf(-1, 1, 3, 5)},
		{"together", spansOf(0, 0, 4, 4), 1, 2, spansOf(0, 1, 2, 4)},
		{"the lower one stops below the upper", spansOf(0, 0, 3, 3), 3, 4, spansOf(0, 2, 3, 4)},
		{"the lower one stops, however far it would go", spansOf(0, 0, 2, 2), 4, 5, spansOf(0, 1, 2, 5)},
		{"the lower one has no room at all", spansOf(0, 1, 2, 2), 4, 5, spansOf(0, 1, 2, 5)},
		{"the upper one stops above the lower", spansOf(1, 2, 4, 4), 0, 1, spansOf(0, 2, 3, 4)},
		{"the upper one stops, however far it would go", spansOf(3, 3, 5, 5), -1, 0, spansOf(-1, 3, 4, 5)},
		{"the upper one has no room at all", spansOf(2, 2, 3, 4), -1, 0, spansOf(-1, 2, 3, 4)},
		{"both for the same floors: the lower one first", spansOf(0, 0, 4, 4), 2, 3, spansOf(0, 2, 3, 4)},
		{"both for the same floors, the goals beyond both", spansOf(0, 0, 4, 4), 4, 5, spansOf(0, 3, 4, 5)},
		{"the upper one stops above what the lower one took", spansOf(0, 0, 5, 5), 3, 4, spansOf(0, 3, 4, 5)},
		{"goals within both", spansOf(0, 2, 3, 5), 1, 4, spansOf(0, 2, 3, 5)},
		{"goals at the ends within", spansOf(0, 2, 3, 5), 2, 3, spansOf(0, 2, 3, 5)},
		{"goals at the outer ends", spansOf(0, 2, 3, 5), 0, 5, spansOf(0, 2, 3, 5)},
		{"one within, one beyond", spansOf(0, 2, 4, 4), 1, 5, spansOf(0, 2, 4, 5)},
		{"both in the lower one", spansOf(0, 3, 5, 5), 1, 2, spansOf(0, 3, 4, 5)},
		{"both in the upper one", spansOf(0, 0, 2, 5), 3, 4, spansOf(0, 1, 2, 5)},
		{"the refuges", spansOf(2, 2, 3, 3), -1, 5, spansOf(-1, 2, 3, 5)},
		{"all at once", spansOf(-1, 1, 2, 5), 0, 3, spansOf(-1, 1, 2, 5)},
	}
	for _, r := range rows {
		if got := impl.ExtendSpans(oddHouse(), r.x, r.lower, r.upper); got != (impl.SpansResult{Spans: r.want}) {
			t.Errorf("%s: ExtendSpans is %+v, not %+v", r.name, got, r.want)
		}
	}
}

func TestExtendSpansAsksInOrder(t *testing.T) {
	h, right := exampleHouse(), spansOf(0, 0, 2, 2)
	form, far := spansOf(1, 0, 2, 2), spansOf(0, 0, 2, 4)
	rows := []struct {
		name         string
		house        impl.House
		x            impl.Spans
		lower, upper int64
		want         int64
	}{
		{"the house too near ahead of all", nearHouse(), far, -2, 4, impl.ErrForm},
		{"the house out of bounds ahead of all", outHouse(), form, 2, 1, impl.ErrRange},
		{"no house", impl.House{}, impl.Spans{}, 0, 0, impl.ErrRange},
		{"spans in form ahead of the goals' range", h, form, -2, 1, impl.ErrForm},
		{"spans in range ahead of the goals' form", h, far, 1, 1, impl.ErrRange},
		{"lower below", h, right, -2, 1, impl.ErrRange},
		{"lower above", h, right, 4, 1, impl.ErrRange},
		{"upper below", h, right, 0, -2, impl.ErrRange},
		{"upper above", h, right, 0, 4, impl.ErrRange},
		{"both beyond", h, right, 4, 4, impl.ErrRange},
		{"the range ahead of the form", h, right, 3, -2, impl.ErrRange},
		{"least", h, right, least, 1, impl.ErrRange},
		{"greatest", h, right, 1, greatest, impl.ErrRange},
		{"the same", h, right, 1, 1, impl.ErrForm},
		{"turned", h, right, 2, 1, impl.ErrForm},
		{"the same, in a refuge", h, right, 3, 3, impl.ErrForm},
		{"the same, in the other", h, right, -1, -1, impl.ErrForm},
	}
	for _, r := range rows {
		if got := impl.ExtendSpans(r.house, r.x, r.lower, r.upper); got != (impl.SpansResult{Code: r.want}) {
			t.Errorf("%s: ExtendSpans is %+v", r.name, got)
		}
		if impl.SafeSpans(r.house, r.x, r.lower, r.upper) {
			t.Errorf("%s: SafeSpans is true", r.name)
		}
	}
}

// Each condition of SafeSpans just held, and just not. That of the two of the
// last neither holds cannot be where the others do: what is asked there is each
// of the two that holds alone.
func TestSafeSpansByHand(t *testing.T) {
	h := exampleHouse()
	rows := []struct {
		name         string
		house        impl.House
		x            impl.Spans
		lower, upper int64
		want         bool
	}{
		{"both can go", h, spansOf(0, 0, 2, 2), 1, 2, true},
		{"a house too near", nearHouse(), spansOf(0, 0, 2, 2), 1, 2, false},
		{"a house out of its bounds", outHouse(), spansOf(0, 0, 2, 2), 1, 2, false},
		{"spans next to each other", h, spansOf(0, 1, 2, 2), 1, 2, true},
		{"spans that meet", h, spansOf(0, 2, 2, 2), 1, 2, false},
		{"a span that is turned", h, spansOf(1, 0, 2, 2), 1, 2, false},
		{"a span to the last refuge", h, spansOf(-1, 0, 2, 3), 1, 2, true},
		{"a span below it", h, spansOf(-2, 0, 2, 3), 1, 2, false},
		{"a span above it", h, spansOf(-1, 0, 2, 4), 1, 2, false},
		{"lower in the refuge", h, spansOf(0, 0, 2, 2), -1, 2, true},
		{"lower below it", h, spansOf(0, 0, 2, 2), -2, 2, false},
		{"upper in the refuge", h, spansOf(0, 0, 2, 2), 2, 3, true},
		{"upper above it", h, spansOf(0, 0, 2, 2), 2, 4, false},
		{"lower just below upper", h, spansOf(0, 0, 2, 2), 0, 1, true},
		{"lower at upper", h, spansOf(0, 0, 2, 2), 1, 1, false},
		{"lower above upper", h, spansOf(0, 0, 2, 2), 1, 0, false},
		{"the lower one alone can go: its way is just free", h, spansOf(0, 1, 2, 2), 0, 1, true},
		{"the upper one alone can go: its way is just free", h, spansOf(0, 0, 1, 2), 1, 2, true},
		{"the lower one alone can go", h, spansOf(0, 1, 2, 3), -1, 0, true},
		{"the upper one alone can go", h, spansOf(-1, 0, 1, 2), 2, 3, true},
	}
	for _, r := range rows {
		if got := impl.SafeSpans(r.house, r.x, r.lower, r.upper); got != r.want {
			t.Errorf("%s: SafeSpans is %t", r.name, got)
		}
	}
}

func TestAimOfByHand(t *testing.T) {
	rows := []struct {
		low, high, goal, want int64
	}{
		{1, 4, -1, 1}, {1, 4, 0, 1}, {1, 4, 1, 1}, {1, 4, 2, 2}, {1, 4, 3, 3}, {1, 4, 4, 4}, {1, 4, 5, 4}, {1, 4, 12, 4},
		{2, 2, 1, 2}, {2, 2, 2, 2}, {2, 2, 3, 2}, {-1, -1, 0, -1}, {-1, 0, -2, -1}, {0, 0, 0, 0},
		{least, greatest, least, least}, {least, greatest, 7, 7}, {least, greatest, greatest, greatest},
		{least, least, greatest, least}, {greatest, greatest, least, greatest},
		{1, 4, least, 1}, {1, 4, greatest, 4},
		// A span that is turned: the end that the goal is beyond, Low ahead of High.
		{4, 1, 0, 4}, {4, 1, 1, 4}, {4, 1, 2, 4}, {4, 1, 4, 1}, {4, 1, 5, 1},
	}
	for _, r := range rows {
		if got := impl.AimOf(impl.Span{Low: r.low, High: r.high}, r.goal); got != r.want {
			t.Errorf("AimOf of %d to %d, %d is %d, not %d", r.low, r.high, r.goal, got, r.want)
		}
	}
}

// An aim is in its span, and no floor of the span is nearer the goal.
func TestAimIsTheNearest(t *testing.T) {
	for low := int64(-1); low <= 12; low++ {
		for high := low; high <= 12; high++ {
			for goal := int64(-3); goal <= 14; goal++ {
				aim := impl.AimOf(impl.Span{Low: low, High: high}, goal)
				if aim < low || aim > high {
					t.Fatalf("AimOf of %d to %d, %d is %d", low, high, goal, aim)
				}
				for floor := low; floor <= high; floor++ {
					if sizeOf(floor-goal) < sizeOf(aim-goal) {
						t.Fatalf("AimOf of %d to %d, %d is %d, but %d is nearer", low, high, goal, aim, floor)
					}
				}
			}
		}
	}
}

func TestReleasedOfAllEdges(t *testing.T) {
	for _, k := range allKeepings() {
		spans := []impl.Spans{{}, spansOf(-1, 0, 1, k.house.Floors), spansOf(-2, 0, 1, 1), spansOf(1, 0, 2, 2), spansOf(least, 0, 1, greatest)}
		if k.house.Floors <= 5 && k.plan.fault == impl.OK {
			spans = append(spans, k.rightSpans()...)
		}
		for _, s := range k.seenShafts() {
			for _, x := range spans {
				k.holdsReleased(t, x, s)
			}
		}
		for _, lower := range k.fewCars() {
			for _, upper := range append(k.fewCars(), standing(k.plan.high-1)) {
				k.holdsReleased(t, spans[1], impl.Shaft{Lower: lower, Upper: upper})
				k.holdsReleased(t, spans[2], impl.Shaft{Lower: lower, Upper: upper})
			}
		}
	}
}

// Two cars that stand or move at all floors of a house of 12, with all spans.
func TestSpansAreCutApart(t *testing.T) {
	k := keepingOf(greatestHouse())
	spans := k.rightSpans()
	for i, a := range k.plan.places {
		for _, b := range k.plan.places[i+1:] {
			for _, s := range []impl.Shaft{
				{Lower: standing(a), Upper: standing(b)},
				{Lower: impl.Car{Pos: a + 51, Vel: -500}, Upper: impl.Car{Pos: b - 51, Vel: 500}},
				{Lower: impl.Car{Pos: a - 51}, Upper: impl.Car{Pos: b + 51}},
			} {
				for _, x := range spans {
					k.holdsReleased(t, x, s)
				}
			}
		}
	}
}

// The example's floors are at 0, 400 and 800: its cars stand at 0 and 800 cover
// 0 and 2, and those at 200 and 600 what is on both sides of them.
func TestReleasedByHand(t *testing.T) {
	h := exampleHouse()
	far := impl.Shaft{Upper: standing(800)}
	mid := impl.Shaft{Lower: standing(200), Upper: standing(600)}
	rows := []struct {
		name  string
		x     impl.Spans
		shaft impl.Shaft
		want  impl.Spans
	}{
		{"both cut toward each other", spansOf(0, 0, 1, 2), far, spansOf(0, 0, 2, 2)},
		{"the lower one cut above", spansOf(0, 1, 2, 2), far, spansOf(0, 0, 2, 2)},
		{"the lower one cut below", spansOf(-1, 0, 2, 2), far, spansOf(0, 0, 2, 2)},
		{"the lower one cut on both sides", spansOf(-1, 1, 2, 2), far, spansOf(0, 0, 2, 2)},
		{"the upper one cut above", spansOf(0, 0, 2, 3), far, spansOf(0, 0, 2, 2)},
		{"the upper one cut on both sides", spansOf(0, 0, 1, 3), far, spansOf(0, 0, 2, 2)},
		{"both cut on both sides", spansOf(-1, 0, 1, 3), far, spansOf(0, 0, 2, 2)},
		{"nothing to cut", spansOf(0, 0, 2, 2), far, spansOf(0, 0, 2, 2)},
		{"nothing to cut between floors", spansOf(0, 0, 1, 2), mid, spansOf(0, 0, 1, 2)},
		{"cut to what is in both, not to the cover", spansOf(1, 1, 2, 3), mid, spansOf(1, 1, 2, 2)},
		{"cut between floors", spansOf(-1, 0, 1, 3), mid, spansOf(0, 0, 1, 2)},
		{"the lower one has nothing in both", spansOf(-1, -1, 1, 3), far, spansOf(-1, -1, 2, 2)},
		{"the lower one has nothing in both, of two", spansOf(1, 2, 3, 3), far, spansOf(1, 2, 3, 3)},
		{"the upper one has nothing in both, of two", spansOf(-1, -1, 0, 1), far, spansOf(-1, -1, 0, 1)},
		{"the upper one has nothing in both, the lower one is cut", spansOf(-1, 0, 1, 1), far, spansOf(0, 0, 1, 1)},
		{"neither has anything in both", spansOf(1, 1, 3, 3), far, spansOf(1, 1, 3, 3)},
		{"the cars in the refuges", spansOf(-1, 1, 2, 3), impl.Shaft{Lower: standing(-300), Upper: standing(1100)}, spansOf(-1, -1, 3, 3)},
		{"the cars beyond the refuges", spansOf(-1, 1, 2, 3), impl.Shaft{Lower: standing(-452), Upper: standing(1252)}, spansOf(-1, -1, 3, 3)},
		{"they move apart", spansOf(-1, 1, 2, 3), impl.Shaft{Lower: impl.Car{Vel: -40}, Upper: impl.Car{Pos: 800, Vel: 40}}, spansOf(-1, 0, 2, 3)},
		{"they come near each other", spansOf(-1, 0, 1, 3), impl.Shaft{Lower: impl.Car{Vel: 40}, Upper: impl.Car{Pos: 800, Vel: -40}}, spansOf(0, 0, 1, 2)},
		{"doors open", spansOf(-1, 0, 1, 3), impl.Shaft{Lower: impl.Car{Pos: 2, Door: 1}, Upper: impl.Car{Pos: 798, Door: 2}}, spansOf(0, 0, 2, 2)},
	}
	for _, r := range rows {
		if got := impl.ReleaseSpans(h, r.x, r.shaft); got != (impl.SpansResult{Spans: r.want}) {
			t.Errorf("%s: ReleaseSpans is %+v", r.name, got)
		}
	}
}

// ReleaseSpans asks the spans ahead of the shaft; CoverOf, SensedSpans and
// GoalsFor the car and the shaft ahead of all else.
func TestSpansAskInOrder(t *testing.T) {
	h, right := exampleHouse(), spansOf(0, 0, 2, 2)
	form, far := spansOf(1, 0, 2, 2), spansOf(0, 0, 2, 4)
	formCar, farCar := impl.Car{Vel: 1, Door: 1}, impl.Car{Pos: 1253}
	rows := []struct {
		name         string
		house        impl.House
		x            impl.Spans
		lower, upper impl.Car
		want, shaft  int64 // of ReleaseSpans, and of what asks no spans
	}{
		{"the house too near", nearHouse(), far, farCar, farCar, impl.ErrForm, impl.ErrForm},
		{"the house out of bounds", outHouse(), form, formCar, formCar, impl.ErrRange, impl.ErrRange},
		{"no house", impl.House{}, impl.Spans{}, impl.Car{}, impl.Car{}, impl.ErrRange, impl.ErrRange},
		{"spans in form ahead of the cars", h, form, farCar, farCar, impl.ErrForm, impl.ErrRange},
		{"spans in range ahead of the cars", h, far, formCar, formCar, impl.ErrRange, impl.ErrForm},
		{"the lower car ahead of the upper", h, right, formCar, farCar, impl.ErrForm, impl.ErrForm},
		{"the lower car ahead of the upper, turned", h, right, farCar, formCar, impl.ErrRange, impl.ErrRange},
		{"the upper car", h, right, impl.Car{}, farCar, impl.ErrRange, impl.ErrRange},
		{"cars that are too near", h, right, impl.Car{}, standing(99), impl.ErrForm, impl.ErrForm},
		{"a car that cannot stop within", h, right, impl.Car{}, impl.Car{Pos: 1153, Vel: 50}, impl.ErrRange, impl.ErrRange},
		{"another that cannot", h, right, impl.Car{Pos: -353, Vel: -50}, standing(800), impl.ErrRange, impl.ErrRange},
	}
	for _, r := range rows {
		s := impl.Shaft{Lower: r.lower, Upper: r.upper}
		if got := impl.ReleaseSpans(r.house, r.x, s); got != (impl.SpansResult{Code: r.want}) {
			t.Errorf("%s: ReleaseSpans is %+v", r.name, got)
		}
		if got := impl.SensedSpans(r.house, s); got != (impl.SpansResult{Code: r.shaft}) {
			t.Errorf("%s: SensedSpans is %+v", r.name, got)
		}
		for _, lead := range []int64{0, 2} {
			if got := impl.GoalsFor(r.house, s, lead, lead, -lead); got != (impl.GoalsResult{Code: r.shaft}) {
				t.Errorf("%s: GoalsFor is %+v", r.name, got)
			}
		}
	}
	covers := []struct {
		house impl.House
		car   impl.Car
		want  int64
	}{
		{nearHouse(), farCar, impl.ErrForm}, {outHouse(), formCar, impl.ErrRange}, {h, farCar, impl.ErrRange},
		{h, formCar, impl.ErrForm}, {h, impl.Car{Vel: 51}, impl.ErrRange}, {h, impl.Car{Door: 3}, impl.ErrRange},
	}
	for i, r := range covers {
		if got := impl.CoverOf(r.house, r.car); got != (impl.SpansResult{Code: r.want}) {
			t.Errorf("row %d: CoverOf is %+v", i, got)
		}
	}
}

// keepsFree goes about a house with two cars that are each sent to the aims of
// their spans, to goals that are drawn anew from time to time, and that drift.
func keepsFree(t *testing.T, h impl.House, ticks int) {
	t.Helper()
	d := &dice{state: 11}
	s := impl.FreshShaft(h).Shaft
	x := impl.SensedSpans(h, s).Spans
	var goals impl.GoalsResult
	for tick := range ticks {
		if tick%60 == 0 {
			goals = impl.GoalsFor(h, s, d.upTo(0, 1), d.upTo(0, h.Floors-1), d.upTo(-2, h.Floors))
		}
		extended := impl.ExtendSpans(h, x, goals.Lower, goals.Upper)
		if fault := impl.SpansFault(h, extended.Spans); goals.Code != impl.OK || extended.Code != impl.OK || fault != impl.OK {
			t.Fatalf("%+v, tick %d: %+v, %+v, fault %d", h, tick, goals, extended, fault)
		}
		x = extended.Spans
		lower := impl.CommandFor(h, s.Lower, impl.AimOf(x.Lower, goals.Lower))
		upper := impl.CommandFor(h, s.Upper, impl.AimOf(x.Upper, goals.Upper))
		stepped := impl.StepShaft(h, s, lower, upper, d.upTo(-h.Drift, h.Drift), d.upTo(-h.Drift, h.Drift))
		s = stepped.Shaft
		released := impl.ReleaseSpans(h, x, s)
		if fault := impl.SpansFault(h, released.Spans); stepped.Code != impl.OK || released.Code != impl.OK || fault != impl.OK {
			t.Fatalf("%+v, tick %d: %+v, %+v, fault %d", h, tick, stepped, released, fault)
		}
		if !holds(x.Lower, released.Spans.Lower) || !holds(x.Upper, released.Spans.Upper) {
			t.Fatalf("%+v, tick %d: %+v grew to %+v as it was cut", h, tick, x, released)
		}
		x = released.Spans
	}
}

func TestSpansStayWithoutAFault(t *testing.T) {
	for _, h := range append(rightHouses(), driftHouse(), smallHouse()) {
		keepsFree(t, h, 6000)
	}
}

// Who is in the way goes out of it: both cars come to the goals that are told,
// wherever they were.
func TestBothComeToTheirGoals(t *testing.T) {
	h := exampleHouse()
	k := keepingOf(h)
	for i, a := range k.plan.places {
		for _, b := range k.plan.places[i+1:] {
			for lower := int64(-1); lower < h.Floors; lower++ {
				for upper := lower + 1; upper <= h.Floors; upper++ {
					comeToTheirGoals(t, h, impl.Shaft{Lower: standing(a), Upper: standing(b)}, lower, upper)
				}
			}
		}
	}
}

func comeToTheirGoals(t *testing.T, h impl.House, s impl.Shaft, lower, upper int64) {
	t.Helper()
	from, x := s, impl.SensedSpans(h, s).Spans
	for range 2 * impl.RunBound(h).Value {
		x = impl.ExtendSpans(h, x, lower, upper).Spans
		a := impl.CommandFor(h, s.Lower, impl.AimOf(x.Lower, lower))
		b := impl.CommandFor(h, s.Upper, impl.AimOf(x.Upper, upper))
		s = impl.StepShaft(h, s, a, b, 0, 0).Shaft
		x = impl.ReleaseSpans(h, x, s).Spans
	}
	if !impl.ReachedBy(h, s.Lower, lower) || !impl.ReachedBy(h, s.Upper, upper) {
		t.Errorf("%+v: from %+v to %d and %d they come to %+v, with %+v", h, from, lower, upper, s, x)
	}
}

type spansAnswers struct {
	fault, aim                        int64
	cover, sensed, extended, released impl.SpansResult
	goals                             impl.GoalsResult
	isSafe                            bool
}

func spansAnswersAt(h impl.House, a, b, n int64) spansAnswers {
	c := impl.Car{Pos: a, Vel: b, Door: max(0, n)}
	s := impl.Shaft{Lower: impl.Car{Vel: b}, Upper: impl.Car{Pos: a, Vel: n}}
	x := spansOf(b, n, a, a)
	wide := spansOf(-1, 0, 1, h.Floors)
	return spansAnswers{
		impl.SpansFault(h, x), impl.AimOf(x.Lower, a),
		impl.CoverOf(h, c), impl.SensedSpans(h, s), impl.ExtendSpans(h, x, a, b), impl.ReleaseSpans(h, wide, s),
		impl.GoalsFor(h, s, a, b, n), impl.SafeSpans(h, x, b, n),
	}
}

func spansAnswersEverywhere() []spansAnswers {
	var list []spansAnswers
	numbers := []int64{least, least + 1, -big1, -51, -2, -1, 0, 1, 2, 3, 50, 100, 120, big1, greatest - 1, greatest}
	for _, h := range append(housesOfAllKinds(), driftHouse()) {
		for _, a := range numbers {
			for _, b := range numbers {
				for _, n := range numbers {
					list = append(list, spansAnswersAt(h, a, b, n))
				}
			}
		}
	}
	return list
}

// Every call of chapter 6 answers whatever it is given, and the same again when
// other calls stood between.
func TestSpansAnswerEverywhere(t *testing.T) {
	sameTwice(t, spansAnswersEverywhere)
}
