package tests

import (
	"testing"

	"loop.example/g00155/impl"
)

// exampleHouse is the house of the document's examples.
func exampleHouse() impl.House {
	return impl.House{
		Floors: 3, Gap: 400, Length: 100, Refuge: 300, Speed: 50, Push: 10,
		Brake: 10, Drift: 0, Level: 2, Door: 2, Load: 2, Queue: 4,
	}
}

// wideHouse has room enough for most numbers within their bounds.
func wideHouse() impl.House {
	return impl.House{
		Floors: 7, Gap: 20000, Length: 300, Refuge: 19999, Speed: 90, Push: 12,
		Brake: 20, Drift: 5, Level: 7, Door: 5, Load: 9, Queue: 17,
	}
}

// oddHouse has no two numbers that divide each other, and uneven ways.
func oddHouse() impl.House {
	return impl.House{
		Floors: 5, Gap: 131, Length: 17, Refuge: 94, Speed: 29, Push: 6,
		Brake: 11, Drift: 3, Level: 4, Door: 3, Load: 1, Queue: 1,
	}
}

// leastHouse has all its numbers at their lower bounds, but for the ways, which
// are just ApartOf.
func leastHouse() impl.House {
	return impl.House{
		Floors: 2, Gap: 2, Length: 1, Refuge: 2, Speed: 1, Push: 1,
		Brake: 1, Drift: 0, Level: 0, Door: 1, Load: 1, Queue: 1,
	}
}

// greatestHouse has all its numbers at their upper bounds, but for Length,
// which leaves just ApartOf.
func greatestHouse() impl.House {
	return impl.House{
		Floors: 12, Gap: 20000, Length: 19400, Refuge: 20000, Speed: 500, Push: 500,
		Brake: 500, Drift: 499, Level: 50, Door: 20, Load: 20, Queue: 40,
	}
}

// deepHouse has refuges that are farther away than its floors are all together.
func deepHouse() impl.House {
	return impl.House{
		Floors: 4, Gap: 60, Length: 20, Refuge: 701, Speed: 12, Push: 5,
		Brake: 5, Drift: 4, Level: 3, Door: 1, Load: 3, Queue: 2,
	}
}

func rightHouses() []impl.House {
	return []impl.House{exampleHouse(), wideHouse(), oddHouse(), leastHouse(), greatestHouse(), deepHouse()}
}

// houseField is a number of a house and what the document bounds it by.
type houseField struct {
	name   string
	of     func(*impl.House) *int64
	bounds func(impl.House) (int64, int64)
}

func always(low, high int64) func(impl.House) (int64, int64) {
	return func(impl.House) (int64, int64) { return low, high }
}

func houseFields() []houseField {
	return []houseField{
		{"Floors", func(h *impl.House) *int64 { return &h.Floors }, always(2, 12)},
		{"Gap", func(h *impl.House) *int64 { return &h.Gap }, always(1, 20000)},
		{"Length", func(h *impl.House) *int64 { return &h.Length }, always(1, 20000)},
		{"Refuge", func(h *impl.House) *int64 { return &h.Refuge }, always(1, 20000)},
		{"Speed", func(h *impl.House) *int64 { return &h.Speed }, always(1, 500)},
		{"Push", func(h *impl.House) *int64 { return &h.Push }, func(h impl.House) (int64, int64) { return 1, h.Speed }},
		{"Brake", func(h *impl.House) *int64 { return &h.Brake }, func(h impl.House) (int64, int64) { return h.Push, 500 }},
		{"Drift", func(h *impl.House) *int64 { return &h.Drift }, func(h impl.House) (int64, int64) { return 0, h.Push - 1 }},
		{"Level", func(h *impl.House) *int64 { return &h.Level }, always(0, 50)},
		{"Door", func(h *impl.House) *int64 { return &h.Door }, always(1, 20)},
		{"Load", func(h *impl.House) *int64 { return &h.Load }, always(1, 20)},
		{"Queue", func(h *impl.House) *int64 { return &h.Queue }, always(1, 40)},
	}
}

// plan is what the document tells of a house, worked out the plain way.
type plan struct {
	fault, apart, low, high, run, serve int64
	places                              []int64 // of -1, 0 and so on
}

func planOf(h impl.House) plan {
	for _, f := range houseFields() {
		n := *f.of(&h)
		if n < least+2 || n > greatest-2 {
			return plan{fault: impl.ErrRange}
		}
	}
	for _, f := range houseFields() {
		low, high := f.bounds(h)
		if n := *f.of(&h); n < low || n > high {
			return plan{fault: impl.ErrRange}
		}
	}
	path := int64(0)
	for left := h.Speed - h.Brake; left > 0; left -= h.Brake {
		path += left
	}
	p := plan{apart: h.Length + h.Speed + path + h.Level + h.Level}
	if h.Gap < p.apart || h.Refuge < p.apart {
		return plan{fault: impl.ErrForm, apart: p.apart}
	}
	p.places = append(p.places, -h.Refuge)
	place := int64(0)
	for range h.Floors {
		p.places = append(p.places, place)
		place += h.Gap
	}
	p.places = append(p.places, place-h.Gap+h.Refuge)
	p.low = p.places[0] - h.Level - h.Speed - path
	p.high = p.places[h.Floors+1] + h.Level + h.Speed + path
	for p.run = 10; (p.run-10)*h.Speed < p.high-p.low; {
		p.run++
	}
	for pushes := int64(0); pushes*h.Push < 4*h.Speed; pushes++ {
		p.run++
	}
	p.serve = 4*p.run + 4*h.Door + 20
	return p
}

// floorNear is the lowest of the floors that no other is nearer than.
func (p plan) floorNear(pos int64) int64 {
	at := 0
	for i, place := range p.places {
		if max(pos-place, place-pos) < max(pos-p.places[at], p.places[at]-pos) {
			at = i
		}
	}
	return int64(at) - 1
}

func answerOf(code, value int64) impl.IntResult {
	if code != impl.OK {
		return impl.IntResult{Code: code}
	}
	return impl.IntResult{Value: value}
}

// holdsPlan holds all of chapter 2 against the plan of a house.
func holdsPlan(t *testing.T, h impl.House) {
	t.Helper()
	p := planOf(h)
	if got := impl.HouseFault(h); got != p.fault {
		t.Fatalf("HouseFault(%+v) is %d, not %d", h, got, p.fault)
	}
	apartCode := p.fault
	if p.fault == impl.ErrForm {
		apartCode = impl.OK
	}
	rows := []struct {
		name      string
		got, want impl.IntResult
	}{
		{"ApartOf", impl.ApartOf(h), answerOf(apartCode, p.apart)},
		{"LowEnd", impl.LowEnd(h), answerOf(p.fault, p.low)},
		{"HighEnd", impl.HighEnd(h), answerOf(p.fault, p.high)},
		{"RunBound", impl.RunBound(h), answerOf(p.fault, p.run)},
		{"ServeBound", impl.ServeBound(h), answerOf(p.fault, p.serve)},
		{"LevelOf 0", impl.LevelOf(h, 0), answerOf(p.fault, 0)},
		{"FloorAt 0", impl.FloorAt(h, 0), answerOf(p.fault, 0)},
	}
	for _, row := range rows {
		if row.got != row.want {
			t.Fatalf("%s(%+v) is %+v, not %+v", row.name, h, row.got, row.want)
		}
	}
	if p.fault == impl.OK {
		holdsPlaces(t, h, p)
	}
}

func holdsPlaces(t *testing.T, h impl.House, p plan) {
	t.Helper()
	for i, place := range p.places {
		floor := int64(i) - 1
		wantInt(t, "LevelOf", impl.LevelOf(h, floor), place)
		wantInt(t, "FloorAt its place", impl.FloorAt(h, place), floor)
		if i > 0 && place-p.places[i-1] < impl.ApartOf(h).Value {
			t.Errorf("%+v: %d stands too near the one below it", h, floor)
		}
	}
}

func TestHouseByHand(t *testing.T) {
	h := exampleHouse()
	if impl.MaxFloors != 12 || impl.HouseFault(h) != impl.OK {
		t.Error("the house of the examples has a fault")
	}
	wantInt(t, "ApartOf", impl.ApartOf(h), 254)
	wantInt(t, "LowEnd", impl.LowEnd(h), -452)
	wantInt(t, "HighEnd", impl.HighEnd(h), 1252)
	// 1704 by 50, rounded up, and 200 by 10, and 10.
	wantInt(t, "RunBound", impl.RunBound(h), 65)
	wantInt(t, "ServeBound", impl.ServeBound(h), 288)
	wantInt(t, "LevelOf the refuge below", impl.LevelOf(h, -1), -300)
	wantInt(t, "LevelOf 0", impl.LevelOf(h, 0), 0)
	wantInt(t, "LevelOf 2", impl.LevelOf(h, 2), 800)
	wantInt(t, "LevelOf the refuge above", impl.LevelOf(h, 3), 1100)

	odd := oddHouse() // its stop path is 18 and 7
	wantInt(t, "ApartOf", impl.ApartOf(odd), 79)
	wantInt(t, "LowEnd", impl.LowEnd(odd), -152)
	wantInt(t, "HighEnd", impl.HighEnd(odd), 676)
	// 828 by 29, rounded up, and 116 by 6, rounded up (not 4 times 29 by 6), and 10.
	wantInt(t, "RunBound", impl.RunBound(odd), 59)
	wantInt(t, "ServeBound", impl.ServeBound(odd), 268)
	wantInt(t, "RunBound of a low house", impl.RunBound(impl.House{
		Floors: 2, Gap: 20, Length: 1, Refuge: 21, Speed: 9, Push: 4,
		Brake: 7, Level: 0, Door: 1, Load: 1, Queue: 1,
	}), 29)
}

func TestRightHouses(t *testing.T) {
	for _, h := range rightHouses() {
		if fault := impl.HouseFault(h); fault != impl.OK {
			t.Errorf("HouseFault(%+v) is %d", h, fault)
		}
		holdsPlan(t, h)
	}
}

// Apart asks the stop path: of every speed with every brake.
func TestApartOfAsksTheStopPath(t *testing.T) {
	h := wideHouse()
	h.Push, h.Drift = 1, 0
	for speed := int64(1); speed <= 500; speed++ {
		for brake := int64(1); brake <= 500; brake++ {
			h.Speed, h.Brake = speed, brake
			want := h.Length + speed + impl.StopPath(speed, brake).Value + 2*h.Level
			if got := impl.ApartOf(h); got != (impl.IntResult{Value: want}) {
				t.Fatalf("ApartOf(%+v) is %+v, not %d", h, got, want)
			}
			if (impl.HouseFault(h) == impl.ErrForm) != (want > 19999) {
				t.Fatalf("HouseFault(%+v) is %d", h, impl.HouseFault(h))
			}
		}
	}
}

// A bound is in, one beyond it is out, whatever hangs on the other numbers.
func TestBoundsOfAHouse(t *testing.T) {
	for _, h := range rightHouses() {
		for _, f := range houseFields() {
			low, high := f.bounds(h)
			for _, n := range []int64{low, high} {
				on := h
				*f.of(&on) = n
				if f.name == "Speed" || f.name == "Push" { // they bound others, which follow
					on.Push = min(on.Push, on.Speed)
					on.Brake = max(on.Brake, on.Push)
					on.Drift = min(on.Drift, on.Push-1)
				}
				if got := impl.ApartOf(on); got.Code != impl.OK {
					t.Errorf("%s %d: ApartOf(%+v) is %+v", f.name, n, on, got)
				}
				if got := impl.HouseFault(on); got == impl.ErrRange {
					t.Errorf("%s %d: HouseFault(%+v) is ErrRange", f.name, n, on)
				}
			}
			for _, n := range outside(low, high) {
				off := h
				*f.of(&off) = n
				if got := impl.HouseFault(off); got != impl.ErrRange {
					t.Errorf("%s %d: HouseFault(%+v) is %d", f.name, n, off, got)
				}
				refuses(t, off, impl.ErrRange, impl.ErrRange)
			}
		}
	}
}

// refuses holds every answer about a house with a fault against its code.
func refuses(t *testing.T, h impl.House, code, apartCode int64) {
	t.Helper()
	wrong := impl.IntResult{Code: code}
	all := []impl.IntResult{
		impl.LowEnd(h), impl.HighEnd(h), impl.RunBound(h), impl.ServeBound(h),
		impl.LevelOf(h, 0), impl.LevelOf(h, least), impl.LevelOf(h, greatest),
		impl.FloorAt(h, 0), impl.FloorAt(h, least), impl.FloorAt(h, greatest),
	}
	for i, got := range all {
		if got != wrong {
			t.Errorf("answer %d of %+v is %+v, not %+v", i, h, got, wrong)
		}
	}
	if got := impl.ApartOf(h); got.Code != apartCode || apartCode != impl.OK && got.Value != 0 {
		t.Errorf("ApartOf(%+v) is %+v", h, got)
	}
}

// A way that is just ApartOf is long enough, one less is ErrForm, for the gap
// and for the refuge; ErrRange goes ahead of it.
func TestWaysThatAreJustApart(t *testing.T) {
	for _, h := range rightHouses() {
		apart := impl.ApartOf(h).Value
		h.Gap, h.Refuge = apart, apart
		if fault := impl.HouseFault(h); fault != impl.OK {
			t.Errorf("just apart: HouseFault(%+v) is %d", h, fault)
		}
		holdsPlan(t, h)
		low, short, both := h, h, h
		low.Gap--
		short.Refuge--
		both.Gap, both.Refuge = 1, 1
		for _, near := range []impl.House{low, short, both} {
			if fault := impl.HouseFault(near); fault != impl.ErrForm {
				t.Errorf("too near: HouseFault(%+v) is %d", near, fault)
			}
			wantInt(t, "ApartOf what is too near", impl.ApartOf(near), apart)
			refuses(t, near, impl.ErrForm, impl.OK)
			near.Queue = 41
			if fault := impl.HouseFault(near); fault != impl.ErrRange {
				t.Errorf("ErrRange goes first: HouseFault(%+v) is %d", near, fault)
			}
			refuses(t, near, impl.ErrRange, impl.ErrRange)
		}
	}
}

// Two numbers at a time at, next to and far from their bounds.
func TestHousesOfAllEdges(t *testing.T) {
	fields := houseFields()
	edges := func(h impl.House, f houseField) []int64 {
		low, high := f.bounds(h)
		return append(outside(low, high), low, low+1, (low+high)/2, high-1, high)
	}
	for _, h := range rightHouses() {
		for i, f := range fields {
			for _, n := range edges(h, f) {
				one := h
				*f.of(&one) = n
				holdsPlan(t, one)
				for _, g := range fields[i+1:] {
					// The bounds of the house that was, and of the one that is.
					for _, m := range append(edges(h, g), edges(one, g)...) {
						two := one
						*g.of(&two) = m
						holdsPlan(t, two)
					}
				}
			}
		}
	}
	holdsPlan(t, impl.House{})
}

func TestFloorsOfAHouse(t *testing.T) {
	wrong := impl.IntResult{Code: impl.ErrRange}
	for _, h := range rightHouses() {
		for _, floor := range outside(-1, h.Floors) {
			if got := impl.LevelOf(h, floor); got != wrong {
				t.Errorf("LevelOf(%+v, %d) is %+v", h, floor, got)
			}
		}
		p := planOf(h)
		for _, pos := range outside(p.places[0], p.places[h.Floors+1]) {
			if got := impl.FloorAt(h, pos); got != wrong {
				t.Errorf("FloorAt(%+v, %d) is %+v", h, pos, got)
			}
		}
		for i, place := range p.places[1:] {
			below := int64(i) - 1
			half := p.places[i] + (place-p.places[i])/2
			wantInt(t, "the half, or below it", impl.FloorAt(h, half), below)
			wantInt(t, "beyond the half", impl.FloorAt(h, half+1), below+1)
			wantInt(t, "above a place", impl.FloorAt(h, p.places[i]+1), p.floorNear(p.places[i]+1))
			wantInt(t, "below a place", impl.FloorAt(h, place-1), p.floorNear(place-1))
		}
	}
}

func TestFloorAtEveryPlace(t *testing.T) {
	for _, h := range []impl.House{exampleHouse(), oddHouse(), leastHouse(), deepHouse()} {
		p := planOf(h)
		for pos := p.places[0]; pos <= p.places[h.Floors+1]; pos++ {
			wantInt(t, "FloorAt", impl.FloorAt(h, pos), p.floorNear(pos))
		}
	}
	h := exampleHouse()
	rows := []struct{ pos, floor int64 }{
		{-300, -1}, {-151, -1}, {-150, -1}, {-149, 0}, {0, 0}, {199, 0}, {200, 0}, {201, 1},
		{600, 1}, {601, 2}, {950, 2}, {951, 3}, {1100, 3},
	}
	for _, r := range rows {
		wantInt(t, "FloorAt", impl.FloorAt(h, r.pos), r.floor)
	}
}

// Beyond each refuge a car that comes to it at full speed finds room to stop,
// if it brakes a tick late and stands off by Level.
func TestEndsLeaveRoomToStop(t *testing.T) {
	for _, h := range rightHouses() {
		up := impl.LevelOf(h, h.Floors).Value + h.Level + h.Speed
		down := impl.LevelOf(h, -1).Value - h.Level - h.Speed
		for vel := h.Speed; vel > 0; {
			rise := impl.BrakeOn(up, vel, h.Brake)
			fall := impl.BrakeOn(down, -vel, h.Brake)
			up, down, vel = rise.Pos, fall.Pos, rise.Vel
		}
		wantInt(t, "HighEnd", impl.HighEnd(h), up)
		wantInt(t, "LowEnd", impl.LowEnd(h), down)
	}
}

type houseAnswers struct {
	fault                                      int64
	level, floor, low, high, apart, run, serve impl.IntResult
}

func houseAnswersEverywhere() []houseAnswers {
	var list []houseAnswers
	houses := append(rightHouses(), impl.House{})
	for _, h := range rightHouses() {
		for _, f := range houseFields() {
			for _, n := range wideNumbers() {
				other := h
				*f.of(&other) = n
				houses = append(houses, other)
			}
		}
	}
	for _, h := range houses {
		for _, n := range wideNumbers() {
			list = append(list, houseAnswers{
				impl.HouseFault(h), impl.LevelOf(h, n), impl.FloorAt(h, n), impl.LowEnd(h),
				impl.HighEnd(h), impl.ApartOf(h), impl.RunBound(h), impl.ServeBound(h),
			})
		}
	}
	return list
}

// Every call of chapter 2 answers whatever it is given, and the same again when
// other calls stood between.
func TestHouseAnswersEverywhere(t *testing.T) {
	sameTwice(t, houseAnswersEverywhere)
}
