package tests

import (
	"testing"

	"loop.example/g00155/impl"
)

// driftHouse is the example's, with cars that drift.
func driftHouse() impl.House {
	h := exampleHouse()
	h.Drift = 4
	return h
}

// smallHouse has few places, and cars that drift, so that all of them can be
// gone through.
func smallHouse() impl.House {
	return impl.House{
		Floors: 2, Gap: 5, Length: 1, Refuge: 5, Speed: 3, Push: 2,
		Brake: 2, Drift: 1, Level: 0, Door: 2, Load: 1, Queue: 1,
	}
}

// guard is what the document tells of two cars that are kept apart, worked out
// the plain way: every drift that there is has its turn.
type guard struct {
	plant
	known map[commanded][2]int64 // by what worst was asked: drifts are many
}

type commanded struct {
	car     impl.Car
	command impl.Command
}

func guardOf(h impl.House) guard {
	return guard{plantOf(h), map[commanded][2]int64{}}
}

func allGuards() []guard {
	list := []guard{guardOf(driftHouse()), guardOf(smallHouse()), guardOf(heavyHouse())}
	for _, p := range allPlants() {
		list = append(list, guardOf(p.house))
	}
	return list
}

func (g guard) commandedFault(c impl.Car, x impl.Command) int64 {
	if fault := g.carFault(c); fault != impl.OK {
		return fault
	}
	return g.commandFault(x)
}

// worst asks for a car and a command without a fault.
func (g guard) worst(c impl.Car, x impl.Command) (int64, int64) {
	if known, ok := g.known[commanded{c, x}]; ok {
		return known[0], known[1]
	}
	low, high := int64(greatest), int64(least)
	for drift := -g.house.Drift; drift <= g.house.Drift; drift++ {
		lowest, highest := g.ends(g.step(c, x, drift).Car)
		low, high = min(low, lowest), max(high, highest)
	}
	g.known[commanded{c, x}] = [2]int64{low, high}
	return low, high
}

func (g guard) pairFault(s impl.Shaft, lower, upper impl.Command) int64 {
	for _, fault := range []int64{g.shaftFault(s), g.commandFault(lower), g.commandFault(upper)} {
		if fault != impl.OK {
			return fault
		}
	}
	return impl.OK
}

func (g guard) mayGo(s impl.Shaft, lower, upper impl.Command) bool {
	if g.pairFault(s, lower, upper) != impl.OK {
		return false
	}
	lowestLower, highestLower := g.worst(s.Lower, lower)
	lowestUpper, highestUpper := g.worst(s.Upper, upper)
	return lowestUpper-highestLower >= g.house.Length && highestUpper <= g.plan.high && lowestLower >= g.plan.low
}

func (g guard) pairFor(s impl.Shaft, lower, upper impl.Command) impl.PairResult {
	if fault := g.pairFault(s, lower, upper); fault != impl.OK {
		return impl.PairResult{Code: fault}
	}
	slow, shy := impl.Command{Brake: true}, impl.Command{Brake: true}
	if s.Lower.Door != 0 {
		slow = lower
	}
	if s.Upper.Door != 0 {
		shy = upper
	}
	switch {
	case g.mayGo(s, lower, upper):
		return impl.PairResult{Lower: lower, Upper: upper}
	case g.mayGo(s, slow, upper):
		return impl.PairResult{Lower: slow, Upper: upper}
	case g.mayGo(s, lower, shy):
		return impl.PairResult{Lower: lower, Upper: shy}
	}
	return impl.PairResult{Lower: slow, Upper: shy}
}

// behind asks for what pairFor told.
func (g guard) behind(s impl.Shaft, p impl.PairResult, driftL, driftU int64) impl.ShaftResult {
	most := g.house.Drift
	switch {
	case p.Code != impl.OK:
		return impl.ShaftResult{Code: p.Code}
	case driftL < -most || driftL > most || driftU < -most || driftU > most:
		return impl.ShaftResult{Code: impl.ErrRange}
	}
	return impl.ShaftResult{Shaft: impl.Shaft{
		Lower: g.step(s.Lower, p.Lower, driftL).Car,
		Upper: g.step(s.Upper, p.Upper, driftU).Car,
	}}
}

func (g guard) halt(s impl.Shaft) impl.IntResult {
	fault := g.shaftFault(s)
	if fault != impl.OK {
		return impl.IntResult{Code: fault}
	}
	ticks := int64(0)
	for a, b := s.Lower.Vel, s.Upper.Vel; a != 0 || b != 0; ticks++ {
		a, b = braked(a, g.house.Brake), braked(b, g.house.Brake)
	}
	return impl.IntResult{Value: ticks}
}

func (g guard) spare(s impl.Shaft) impl.IntResult {
	fault := g.shaftFault(s)
	if fault != impl.OK {
		return impl.IntResult{Code: fault}
	}
	_, highest := g.ends(s.Lower)
	lowest, _ := g.ends(s.Upper)
	return impl.IntResult{Value: lowest - highest - g.house.Length}
}

func (g guard) holdsWorst(t *testing.T, c impl.Car, x impl.Command) {
	t.Helper()
	fault := g.commandedFault(c, x)
	low, high := int64(0), int64(0)
	if fault == impl.OK {
		low, high = g.worst(c, x)
	}
	if got := impl.WorstHigh(g.house, c, x); got != (impl.IntResult{Code: fault, Value: high}) {
		t.Fatalf("WorstHigh(%+v, %+v, %+v) is %+v, not %d, code %d", g.house, c, x, got, high, fault)
	}
	if got := impl.WorstLow(g.house, c, x); got != (impl.IntResult{Code: fault, Value: low}) {
		t.Fatalf("WorstLow(%+v, %+v, %+v) is %+v, not %d, code %d", g.house, c, x, got, low, fault)
	}
}

func (g guard) holdsPair(t *testing.T, s impl.Shaft, lower, upper impl.Command) impl.PairResult {
	t.Helper()
	if got, want := impl.MayGo(g.house, s, lower, upper), g.mayGo(s, lower, upper); got != want {
		t.Fatalf("MayGo(%+v, %+v, %+v, %+v) is %t", g.house, s, lower, upper, got)
	}
	want := g.pairFor(s, lower, upper)
	if got := impl.GuardPair(g.house, s, lower, upper); got != want {
		t.Fatalf("GuardPair(%+v, %+v, %+v, %+v) is %+v, not %+v", g.house, s, lower, upper, got, want)
	}
	return want
}

func (g guard) holdsStepped(t *testing.T, s impl.Shaft, lower, upper impl.Command, drifts []int64) {
	t.Helper()
	p := g.holdsPair(t, s, lower, upper)
	for _, driftL := range drifts {
		for _, driftU := range drifts {
			want := g.behind(s, p, driftL, driftU)
			got := impl.StepShaft(g.house, s, lower, upper, driftL, driftU)
			if got != want {
				t.Fatalf("StepShaft(%+v, %+v, %+v, %+v, %d, %d) is %+v, not %+v", g.house, s, lower, upper, driftL, driftU, got, want)
			}
			if got.Code == impl.OK && impl.ShaftFault(g.house, got.Shaft) != impl.OK {
				t.Fatalf("StepShaft(%+v, %+v, %+v, %+v, %d, %d) is %+v, which has a fault", g.house, s, lower, upper, driftL, driftU, got)
			}
		}
	}
}

func (g guard) holdsStopped(t *testing.T, s impl.Shaft) {
	t.Helper()
	if got, want := impl.HaltShaft(g.house, s), g.halt(s); got != want {
		t.Fatalf("HaltShaft(%+v, %+v) is %+v, not %+v", g.house, s, got, want)
	}
	if got, want := impl.SpareOf(g.house, s), g.spare(s); got != want {
		t.Fatalf("SpareOf(%+v, %+v) is %+v, not %+v", g.house, s, got, want)
	}
}

// tippingSpeeds are those from which a push and a drift come just to a speed
// that is a bound, or one beyond it.
func (g guard) tippingSpeeds() []int64 {
	h := g.house
	list := append(outside(-h.Speed, h.Speed), -h.Speed, h.Speed)
	for _, n := range []int64{h.Push, h.Drift, h.Push + h.Drift, h.Push - h.Drift} {
		list = append(list, around(n, -n, h.Speed-n, n-h.Speed)...)
	}
	return list
}

func TestWorstOfAllEdges(t *testing.T) {
	for _, g := range allGuards() {
		for _, x := range g.edgeCommands() {
			for _, c := range g.fewCars() {
				g.holdsWorst(t, c, x)
			}
			for _, vel := range g.tippingSpeeds() {
				g.holdsWorst(t, impl.Car{Pos: 1, Vel: vel}, x)
				g.holdsWorst(t, impl.Car{Pos: -1, Vel: vel, Door: 1}, x)
			}
			for _, door := range g.edgeDoors() {
				g.holdsWorst(t, impl.Car{Pos: 2, Door: door}, x)
			}
		}
	}
}

func TestWorstAtEverySpeed(t *testing.T) {
	for _, h := range []impl.House{driftHouse(), oddHouse(), smallHouse(), deepHouse()} {
		g := guardOf(h)
		for vel := -h.Speed - 1; vel <= h.Speed+1; vel++ {
			for push := -h.Push - 1; push <= h.Push+1; push++ {
				g.holdsWorst(t, impl.Car{Pos: 3, Vel: vel}, impl.Command{Push: push})
			}
			g.holdsWorst(t, impl.Car{Pos: 3, Vel: vel}, impl.Command{Brake: true})
			g.holdsWorst(t, impl.Car{Pos: 3, Vel: vel}, impl.Command{Open: true})
		}
	}
}

// No drift within Drift brings a car beyond what is told, and one brings it
// just there.
func TestEveryDriftStaysWithinTheWorst(t *testing.T) {
	for _, g := range []guard{guardOf(driftHouse()), guardOf(oddHouse()), guardOf(wideHouse()), guardOf(deepHouse())} {
		h := g.house
		for _, x := range g.edgeCommands() {
			for _, vel := range g.tippingSpeeds() {
				c := impl.Car{Pos: 1, Vel: vel}
				if g.commandedFault(c, x) != impl.OK {
					continue
				}
				low, high := impl.WorstLow(h, c, x).Value, impl.WorstHigh(h, c, x).Value
				isLow, isHigh := false, false
				for drift := -h.Drift; drift <= h.Drift; drift++ {
					behind := impl.StepCar(h, c, x, drift).Car
					lowest, highest := impl.LowOf(h, behind).Value, impl.HighOf(h, behind).Value
					if lowest < low || highest > high {
						t.Fatalf("%+v, %+v, %+v: drift %d comes from %d to %d, beyond %d and %d", h, c, x, drift, lowest, highest, low, high)
					}
					isLow, isHigh = isLow || lowest == low, isHigh || highest == high
				}
				if !isLow || !isHigh {
					t.Fatalf("%+v, %+v, %+v: no drift comes to %d, or none to %d", h, c, x, low, high)
				}
			}
		}
	}
}

// Brake is 10, Push 10, Drift 4, Speed 50: who has come to 44 goes 34, 24, 14
// and 4 more, who has come to 36, 26, 16 and 6.
func TestWorstByHand(t *testing.T) {
	h := driftHouse()
	up, down := impl.Command{Push: 10}, impl.Command{Push: -10}
	open, brake := impl.Command{Open: true}, impl.Command{Brake: true}
	rows := []struct {
		name      string
		car       impl.Car
		command   impl.Command
		low, high int64
	}{
		{"stands and is let go", impl.Car{Pos: 7}, impl.Command{}, 3, 11},
		{"stands and brakes", impl.Car{Pos: 7}, brake, 7, 7},
		{"pushed up", impl.Car{}, up, 6, 14 + 4},
		{"pushed down", impl.Car{}, down, -14 - 4, -6},
		{"pushed up as it rises", impl.Car{Vel: 30}, up, 36, 44 + 76},
		{"pushed down as it sinks", impl.Car{Vel: -30}, down, -44 - 76, -36},
		{"pushed down as it rises", impl.Car{Vel: 30}, down, 16, 24 + 18},
		{"let go as it rises", impl.Car{Vel: 30}, impl.Command{}, 26, 34 + 42},
		{"just Speed", impl.Car{Vel: 36}, up, 42, 50 + 100},
		{"one beyond Speed", impl.Car{Vel: 37}, up, 43, 50 + 100},
		{"one below Speed", impl.Car{Vel: 35}, up, 41, 49 + 39 + 29 + 19 + 9},
		{"Speed, whatever drift", impl.Car{Vel: 44}, up, 50, 150},
		{"Speed, but for the least drift", impl.Car{Vel: 43}, up, 49, 150},
		{"just -Speed", impl.Car{Vel: -36}, down, -150, -42},
		{"one beyond -Speed", impl.Car{Vel: -37}, down, -150, -43},
		{"turns, maybe", impl.Car{Vel: 8}, down, -6, 2},
		{"brakes as it rises", impl.Car{Vel: 30}, brake, 20, 20 + 10},
		{"brakes as it sinks", impl.Car{Vel: -30}, brake, -30, -20},
		{"opens as it rises", impl.Car{Vel: 30}, open, 20, 30},
		{"opens as it stands", impl.Car{Pos: 7}, open, 7, 7},
		{"pushed, its door open", impl.Car{Pos: 7, Door: 2}, up, 7, 7},
		{"let go, its door on its way", impl.Car{Pos: 7, Door: 1}, impl.Command{}, 7, 7},
		{"opens on, its door on its way", impl.Car{Pos: 7, Door: 1}, open, 7, 7},
		{"beyond HighEnd", impl.Car{Pos: 1252, Vel: 50}, impl.Command{}, 1252 + 46, 1252 + 150},
		{"beyond LowEnd", impl.Car{Pos: -452, Vel: -50}, impl.Command{}, -452 - 150, -452 - 46},
	}
	for _, r := range rows {
		wantInt(t, "WorstLow: "+r.name, impl.WorstLow(h, r.car, r.command), r.low)
		wantInt(t, "WorstHigh: "+r.name, impl.WorstHigh(h, r.car, r.command), r.high)
	}
}

// Two cars of a shaft that are near each other, or near an end, or far from
// all, each with each of some speeds.
func (g guard) nearShafts() []impl.Shaft {
	h := g.house
	if g.plan.fault != impl.OK {
		return []impl.Shaft{{}, {Upper: standing(h.Length)}, {Lower: standing(least), Upper: standing(greatest)}}
	}
	var list []impl.Shaft
	speeds := []int64{-h.Speed, -h.Push, -1, 0, 1, h.Drift, h.Push, h.Speed}
	rooms := around(h.Length, h.Length+h.Drift, h.Length+2*h.Drift, h.Length+h.Push+h.Drift, h.Length+2*h.Push+2*h.Drift)
	for _, a := range speeds {
		for _, b := range speeds {
			lowest, highest := g.ends(impl.Car{Vel: a})
			lowestUpper, highestUpper := g.ends(impl.Car{Vel: b})
			for _, room := range rooms {
				upper := impl.Car{Pos: highest + room - lowestUpper, Vel: b}
				list = append(list, impl.Shaft{Lower: impl.Car{Vel: a}, Upper: upper})
			}
			for _, n := range []int64{-1, 0, 1, h.Drift, h.Push, h.Push + h.Drift} {
				bottom, top := g.plan.low-lowest+n, g.plan.high-highestUpper-n
				list = append(list, impl.Shaft{Lower: impl.Car{Pos: bottom, Vel: a}, Upper: impl.Car{Pos: top, Vel: b}})
			}
		}
	}
	return list
}

func (g guard) fewCommands() []impl.Command {
	h := g.house
	return []impl.Command{
		{}, {Push: h.Push}, {Push: -h.Push}, {Push: 1}, {Brake: true}, {Open: true},
		{Push: h.Push + 1}, {Push: 1, Brake: true}, {Brake: true, Open: true},
	}
}

func TestPairsOfAllEdges(t *testing.T) {
	for _, g := range allGuards() {
		most := g.house.Drift
		for _, s := range g.nearShafts() {
			g.holdsStopped(t, s)
			for _, lower := range g.fewCommands() {
				for _, upper := range g.fewCommands() {
					g.holdsStepped(t, s, lower, upper, []int64{-most, most})
				}
			}
		}
	}
}

// A door that is not shut, of one car or of both.
func TestPairsWithDoors(t *testing.T) {
	for _, g := range allGuards() {
		h := g.house
		for _, room := range around(h.Length, h.Length+h.Drift, h.Length+h.Push+h.Drift) {
			for _, a := range []int64{0, 1, h.Door} {
				for _, b := range []int64{0, 1, h.Door} {
					s := impl.Shaft{Lower: impl.Car{Door: a}, Upper: impl.Car{Pos: room, Door: b}}
					for _, lower := range g.fewCommands() {
						for _, upper := range g.fewCommands() {
							g.holdsStepped(t, s, lower, upper, []int64{-h.Drift, 0, h.Drift})
						}
					}
				}
			}
		}
	}
}

func TestShaftsWithFaultsUnderTheGuard(t *testing.T) {
	for _, g := range allGuards() {
		for _, lower := range g.fewCars() {
			for _, upper := range append(g.fewCars(), standing(g.plan.high-1)) {
				s := impl.Shaft{Lower: lower, Upper: upper}
				g.holdsStopped(t, s)
				g.holdsStepped(t, s, impl.Command{Push: 1}, impl.Command{Open: true}, g.edgeDrifts())
				g.holdsStepped(t, s, impl.Command{Push: least}, impl.Command{Push: 1, Open: true}, []int64{0, greatest})
			}
		}
	}
}

// rightCommands are all that there are without a fault.
func rightCommands(h impl.House) []impl.Command {
	list := []impl.Command{{Brake: true}, {Open: true}}
	for push := -h.Push; push <= h.Push; push++ {
		list = append(list, impl.Command{Push: push})
	}
	return list
}

// rightShafts are all that there are without a fault.
func (g guard) rightShafts() []impl.Shaft {
	var cars []impl.Car
	h := g.house
	for pos := g.plan.low; pos <= g.plan.high; pos++ {
		for vel := -h.Speed; vel <= h.Speed; vel++ {
			cars = append(cars, impl.Car{Pos: pos, Vel: vel})
		}
		cars = append(cars, impl.Car{Pos: pos, Door: 1}, impl.Car{Pos: pos, Door: h.Door})
	}
	var list []impl.Shaft
	for _, lower := range cars {
		for _, upper := range cars {
			if s := (impl.Shaft{Lower: lower, Upper: upper}); g.shaftFault(s) == impl.OK {
				list = append(list, s)
			}
		}
	}
	return list
}

// All shafts of a house, with all commands and all drifts.
func TestAllOfTheLeastHouse(t *testing.T) {
	g := guardOf(leastHouse())
	for _, s := range g.rightShafts() {
		g.holdsStopped(t, s)
		for _, lower := range rightCommands(g.house) {
			for _, upper := range rightCommands(g.house) {
				g.holdsStepped(t, s, lower, upper, []int64{-1, 0, 1})
			}
		}
	}
}

// Promise 6: whatever is commanded, and however they drift, a shaft without a
// fault has none behind a tick. All shafts of a house whose cars drift, with
// all commands and the drifts that lead the farthest.
func TestAllOfTheSmallHouseStaysWithoutAFault(t *testing.T) {
	g := guardOf(smallHouse())
	h := g.house
	for _, s := range g.rightShafts() {
		if g.spare(s).Value > 4*h.Speed {
			continue
		}
		for _, lower := range rightCommands(h) {
			for _, upper := range rightCommands(h) {
				for _, driftL := range []int64{-h.Drift, h.Drift} {
					for _, driftU := range []int64{-h.Drift, h.Drift} {
						r := impl.StepShaft(h, s, lower, upper, driftL, driftU)
						if r.Code != impl.OK || impl.ShaftFault(h, r.Shaft) != impl.OK {
							t.Fatalf("StepShaft(%+v, %+v, %+v, %d, %d) is %+v", s, lower, upper, driftL, driftU, r)
						}
					}
				}
			}
		}
	}
}

// dice are numbers that look thrown, and are the same in every run.
type dice struct {
	state uint64
}

// upTo is a number from low to high.
func (d *dice) upTo(low, high int64) int64 {
	d.state = d.state*6364136223846793005 + 1442695040888963407
	return low + int64(d.state>>33)%(high-low+1)
}

func (d *dice) command(h impl.House) impl.Command {
	switch d.upTo(0, 9) {
	case 0:
		return impl.Command{Brake: true}
	case 1:
		return impl.Command{Open: true}
	}
	return impl.Command{Push: d.upTo(-h.Push, h.Push)}
}

// walks ticks a new shaft on, and holds promise 6 in every tick.
func walks(t *testing.T, h impl.House, ticks int, next func(tick int) (lower, upper impl.Command, driftL, driftU int64)) {
	t.Helper()
	low, high := impl.LowEnd(h).Value, impl.HighEnd(h).Value
	s := impl.FreshShaft(h).Shaft
	for tick := range ticks {
		lower, upper, driftL, driftU := next(tick)
		r := impl.StepShaft(h, s, lower, upper, driftL, driftU)
		isApart := r.Shaft.Upper.Pos-r.Shaft.Lower.Pos >= h.Length
		isWithin := r.Shaft.Lower.Pos >= low && r.Shaft.Upper.Pos <= high
		if r.Code != impl.OK || !isApart || !isWithin || impl.SpareOf(h, r.Shaft).Code != impl.OK {
			t.Fatalf("%+v: StepShaft(%+v, %+v, %+v, %d, %d) is %+v", h, s, lower, upper, driftL, driftU, r)
		}
		s = r.Shaft
	}
}

// Promise 6, over long times: cars that are thrown about, and ones that are
// sent at each other, apart, and both to one end, as hard as may be.
func TestTwoCarsStayApart(t *testing.T) {
	for _, h := range append(rightHouses(), driftHouse(), smallHouse(), heavyHouse()) {
		d := dice{state: 5}
		walks(t, h, 20000, func(int) (impl.Command, impl.Command, int64, int64) {
			return d.command(h), d.command(h), d.upTo(-h.Drift, h.Drift), d.upTo(-h.Drift, h.Drift)
		})
		for _, way := range [][2]int64{{1, -1}, {-1, 1}, {1, 1}, {-1, -1}, {1, 0}, {0, -1}, {0, 0}} {
			for _, blown := range [][2]int64{{1, -1}, {-1, 1}, {1, 1}, {-1, -1}} {
				walks(t, h, 1500, func(int) (impl.Command, impl.Command, int64, int64) {
					lower, upper := impl.Command{Push: way[0] * h.Push}, impl.Command{Push: way[1] * h.Push}
					return lower, upper, blown[0] * h.Drift, blown[1] * h.Drift
				})
			}
		}
		// Each way holds for some ticks, so that they come to their full speed.
		var lower, upper impl.Command
		walks(t, h, 20000, func(tick int) (impl.Command, impl.Command, int64, int64) {
			if tick%97 == 0 {
				lower, upper = impl.Command{Push: h.Push * d.upTo(-1, 1)}, impl.Command{Push: h.Push * d.upTo(-1, 1)}
			}
			return lower, upper, h.Drift, -h.Drift
		})
	}
}

// Who is held back by the other one comes as near as may be: the guard takes
// no more than it must.
func TestGuardLeavesNoMoreRoomThanItMust(t *testing.T) {
	h := exampleHouse()
	s := impl.FreshShaft(h).Shaft
	for range 200 {
		s = impl.StepShaft(h, s, impl.Command{Push: 10}, impl.Command{Brake: true}, 0, 0).Shaft
	}
	if s.Lower != standing(700) || s.Upper != standing(800) {
		t.Errorf("they stand at %+v", s)
	}
	for range 200 {
		s = impl.StepShaft(h, s, impl.Command{Push: 10}, impl.Command{Push: 10}, 0, 0).Shaft
	}
	if s.Lower.Vel != 0 || s.Upper.Vel != 0 || s.Upper.Pos <= 1242 || s.Upper.Pos > 1252 {
		t.Errorf("they stand at %+v", s)
	}
}

// The example's Length is 100: 20 millimetres to spare are just enough for two
// that are pushed by 10 toward each other, 10 for one of them.
func TestGuardedPairsByHand(t *testing.T) {
	h := exampleHouse()
	up, down, none := impl.Command{Push: 10}, impl.Command{Push: -10}, impl.Command{}
	brake, open := impl.Command{Brake: true}, impl.Command{Open: true}
	five, fiveDown := impl.Command{Push: 5}, impl.Command{Push: -5}
	rows := []struct {
		name                 string
		lower, upper         impl.Car
		low, high            impl.Command
		wantLower, wantUpper impl.Command
	}{
		{"the first: room of just Length", standing(100), standing(220), up, down, up, down},
		{"the second and the third both: one less", standing(100), standing(219), up, down, brake, down},
		{"the second, just", standing(100), standing(210), up, down, brake, down},
		{"only the last", standing(100), standing(209), up, down, brake, brake},
		{"only the last, no room at all", standing(100), standing(200), up, down, brake, brake},
		{"only the second", standing(100), standing(205), up, fiveDown, brake, fiveDown},
		{"only the third", standing(100), standing(205), five, down, five, brake},
		{"only the second, the other stands", standing(100), standing(209), up, none, brake, none},
		{"only the third, the other stands", standing(100), standing(209), none, down, none, brake},
		{"the first: away from each other", standing(100), standing(200), down, up, down, up},
		{"the first: one behind the other", standing(100), standing(200), up, up, up, up},
		{"the first: one behind the other, down", standing(100), standing(200), down, down, down, down},
		{"slower ahead", standing(100), standing(200), up, five, brake, five},
		{"slower ahead, down", standing(100), standing(200), fiveDown, down, fiveDown, brake},
		{"the first: HighEnd just", standing(0), standing(1242), none, up, none, up},
		{"one above HighEnd", standing(0), standing(1243), none, up, none, brake},
		{"one above HighEnd, lower may go", standing(0), standing(1243), up, up, up, brake},
		{"the first: LowEnd just", standing(-442), standing(800), down, none, down, none},
		{"one below LowEnd", standing(-443), standing(800), down, none, brake, none},
		{"one below LowEnd, upper may go", standing(-443), standing(800), down, down, brake, down},
		{"both ends", standing(-443), standing(1243), down, up, brake, brake},
		{"both rise to HighEnd", standing(1143), standing(1243), up, up, brake, brake},
		{"both sink to LowEnd", standing(-443), standing(-343), down, down, brake, brake},
		// From 40 to 50 it goes 50, and 100 more as it brakes.
		{"fast to HighEnd, just", standing(0), impl.Car{Pos: 1102, Vel: 40}, up, up, up, up},
		{"fast to HighEnd, one above", standing(0), impl.Car{Pos: 1103, Vel: 40}, up, up, up, brake},
		{"fast to LowEnd, just", impl.Car{Pos: -302, Vel: -40}, standing(800), down, up, down, up},
		{"fast to LowEnd, one below", impl.Car{Pos: -303, Vel: -40}, standing(800), down, up, brake, up},
		{"fast to each other, just", impl.Car{Vel: 40}, impl.Car{Pos: 400, Vel: -40}, up, down, up, down},
		{"fast to each other, one less", impl.Car{Vel: 40}, impl.Car{Pos: 399, Vel: -40}, up, down, brake, down},
		// Who brakes from 40 goes 60.
		{"fast to each other, one may, just", impl.Car{Vel: 40}, impl.Car{Pos: 310, Vel: -40}, up, down, brake, down},
		{"fast to each other, none may", impl.Car{Vel: 40}, impl.Car{Pos: 309, Vel: -40}, up, down, brake, brake},
		{"pushed away, though they near", impl.Car{Vel: 40}, impl.Car{Pos: 220, Vel: -40}, down, up, down, up},
		{"opens as it moves", impl.Car{Vel: 40}, standing(160), open, none, open, none},
		{"opens as the other nears", standing(100), standing(200), open, down, open, brake},
		{"the upper one opens as the other nears", standing(100), standing(200), up, open, brake, open},
		{"both open", standing(100), standing(200), open, open, open, open},
		{"both brake", standing(100), standing(200), brake, brake, brake, brake},
		// A door that is not shut keeps its command.
		{"lower open, shut by a push", impl.Car{Pos: 100, Door: 2}, standing(200), up, none, up, none},
		{"lower open, upper held back", impl.Car{Pos: 100, Door: 2}, standing(200), up, down, up, brake},
		{"lower open and told so, upper held back", impl.Car{Pos: 100, Door: 1}, standing(200), open, down, open, brake},
		{"upper open, shut by a push", standing(100), impl.Car{Pos: 200, Door: 1}, none, down, none, down},
		{"upper open, lower held back", standing(100), impl.Car{Pos: 200, Door: 1}, up, down, brake, down},
		{"upper open and told so, lower held back", standing(100), impl.Car{Pos: 200, Door: 2}, up, open, brake, open},
		{"both open, pushed to each other", impl.Car{Pos: 100, Door: 2}, impl.Car{Pos: 200, Door: 1}, up, down, up, down},
		{"both open at the ends, pushed beyond", impl.Car{Pos: -452, Door: 2}, impl.Car{Pos: 1252, Door: 1}, down, up, down, up},
	}
	for _, r := range rows {
		s := impl.Shaft{Lower: r.lower, Upper: r.upper}
		want := impl.PairResult{Lower: r.wantLower, Upper: r.wantUpper}
		if got := impl.GuardPair(h, s, r.low, r.high); got != want {
			t.Errorf("%s: %+v, not %+v", r.name, got, want)
		}
		isFirst := r.low == r.wantLower && r.high == r.wantUpper
		if got := impl.MayGo(h, s, r.low, r.high); got != isFirst {
			t.Errorf("%s: MayGo is %t", r.name, got)
		}
		if !impl.MayGo(h, s, r.wantLower, r.wantUpper) {
			t.Errorf("%s: the pair that is told may not go", r.name)
		}
	}
}

// Drift is 4: who is let go may come 4 nearer, and who is pushed by 10, 14,
// and 4 more as it brakes.
func TestGuardCountsDrifts(t *testing.T) {
	h := driftHouse()
	up, down, none, brake := impl.Command{Push: 10}, impl.Command{Push: -10}, impl.Command{}, impl.Command{Brake: true}
	rows := []struct {
		name                 string
		lower, upper         impl.Car
		low, high            impl.Command
		wantLower, wantUpper impl.Command
	}{
		{"two that are let go", standing(0), standing(108), none, none, none, none},
		{"one less", standing(0), standing(107), none, none, brake, none},
		{"one, just", standing(0), standing(104), none, none, brake, none},
		{"one less, both brake", standing(0), standing(103), none, none, brake, brake},
		{"pushed to each other", standing(0), standing(136), up, down, up, down},
		{"pushed to each other, one less", standing(0), standing(135), up, down, brake, down},
		{"pushed to each other, one, just", standing(0), standing(118), up, down, brake, down},
		{"pushed to each other, none", standing(0), standing(117), up, down, brake, brake},
		{"let go at HighEnd", standing(0), standing(1252), none, none, none, brake},
		{"let go 4 below HighEnd", standing(0), standing(1248), none, none, none, none},
		{"let go 3 below HighEnd", standing(0), standing(1249), none, none, none, brake},
		{"let go at LowEnd", standing(-452), standing(800), none, none, brake, none},
		{"let go 4 above LowEnd", standing(-448), standing(800), none, none, none, none},
		{"let go 3 above LowEnd", standing(-449), standing(800), none, none, brake, none},
		// One rises by 18 at most, the other by 6 at least.
		{"one behind the other", standing(0), standing(112), up, up, up, up},
		{"one behind the other, one less", standing(0), standing(111), up, up, brake, up},
	}
	for _, r := range rows {
		want := impl.PairResult{Lower: r.wantLower, Upper: r.wantUpper}
		if got := impl.GuardPair(h, impl.Shaft{Lower: r.lower, Upper: r.upper}, r.low, r.high); got != want {
			t.Errorf("%s: %+v, not %+v", r.name, got, want)
		}
	}
}

func TestSteppedShaftsByHand(t *testing.T) {
	h := driftHouse()
	up, down, none, open := impl.Command{Push: 10}, impl.Command{Push: -10}, impl.Command{}, impl.Command{Open: true}
	rows := []struct {
		name                 string
		lower, upper         impl.Car
		low, high            impl.Command
		driftL, driftU       int64
		wantLower, wantUpper impl.Car
	}{
		{"each its own drift", standing(0), standing(800), up, down, 3, 4, impl.Car{Pos: 13, Vel: 13}, impl.Car{Pos: 794, Vel: -6}},
		{"drifts at their ends", standing(0), standing(800), none, none, -4, 4, impl.Car{Pos: -4, Vel: -4}, impl.Car{Pos: 804, Vel: 4}},
		{"and turned round", standing(0), standing(800), none, none, 4, -4, impl.Car{Pos: 4, Vel: 4}, impl.Car{Pos: 796, Vel: -4}},
		{"lower held back", standing(0), standing(117), up, none, 4, -4, standing(0), impl.Car{Pos: 113, Vel: -4}},
		{"upper held back", standing(0), standing(117), none, down, 4, -4, impl.Car{Pos: 4, Vel: 4}, standing(117)},
		{"both held back", standing(0), standing(117), up, down, 4, -4, standing(0), standing(117)},
		{"held back as it moves", impl.Car{Vel: 30}, standing(130), up, open, 0, 0, impl.Car{Pos: 20, Vel: 20}, impl.Car{Pos: 130, Door: 1}},
		{"doors shut", impl.Car{Door: 2}, impl.Car{Pos: 100, Door: 1}, up, down, 4, -4, impl.Car{Door: 1}, standing(100)},
		{"doors open on", impl.Car{Door: 2}, impl.Car{Pos: 100, Door: 1}, open, open, 4, -4, impl.Car{Door: 2}, impl.Car{Pos: 100, Door: 2}},
		{"open beside one held back", impl.Car{Door: 2}, standing(100), open, down, 4, -4, impl.Car{Door: 2}, standing(100)},
	}
	for _, r := range rows {
		want := impl.ShaftResult{Shaft: impl.Shaft{Lower: r.wantLower, Upper: r.wantUpper}}
		got := impl.StepShaft(h, impl.Shaft{Lower: r.lower, Upper: r.upper}, r.low, r.high, r.driftL, r.driftU)
		if got != want {
			t.Errorf("%s: %+v, not %+v", r.name, got, want)
		}
	}
}

func TestHaltAndSpareByHand(t *testing.T) {
	h := exampleHouse()
	rows := []struct {
		name         string
		lower, upper impl.Car
		halt, spare  int64
	}{
		{"both stand", standing(0), standing(800), 0, 700},
		{"both stand, no room to spare", standing(0), standing(100), 0, 0},
		{"one to spare", standing(0), standing(101), 0, 1},
		{"doors open", impl.Car{Door: 2}, impl.Car{Pos: 400, Door: 1}, 0, 300},
		{"one moves by 1", impl.Car{Vel: 1}, standing(800), 1, 700},
		{"just Brake", impl.Car{Vel: 10}, standing(800), 1, 700},
		{"one more than Brake", impl.Car{Vel: 11}, standing(800), 2, 699},
		{"lower sinks", impl.Car{Vel: -25}, standing(800), 3, 700},
		{"upper sinks", standing(0), impl.Car{Pos: 800, Vel: -25}, 3, 680},
		{"upper rises", standing(0), impl.Car{Pos: 800, Vel: 25}, 3, 700},
		{"lower the faster", impl.Car{Vel: 50}, impl.Car{Pos: 800, Vel: -11}, 5, 599},
		{"upper the faster", impl.Car{Vel: 11}, impl.Car{Pos: 800, Vel: -50}, 5, 599},
		{"toward each other, no room to spare", impl.Car{Vel: 40}, impl.Car{Pos: 190, Vel: -30}, 4, 0},
		{"apart, no room to spare", impl.Car{Vel: -40}, impl.Car{Pos: 100, Vel: 30}, 4, 0},
	}
	for _, r := range rows {
		s := impl.Shaft{Lower: r.lower, Upper: r.upper}
		wantInt(t, "HaltShaft: "+r.name, impl.HaltShaft(h, s), r.halt)
		wantInt(t, "SpareOf: "+r.name, impl.SpareOf(h, s), r.spare)
	}
}

// Both stand behind as many ticks of braking as HaltShaft tells, and not ahead
// of that; what they have to spare then is what was told.
func TestHaltIsWhenBothStand(t *testing.T) {
	brake := impl.Command{Brake: true}
	for _, g := range allGuards() {
		for _, s := range g.nearShafts() {
			if g.shaftFault(s) != impl.OK {
				continue
			}
			h, ticks, spare := g.house, impl.HaltShaft(g.house, s).Value, impl.SpareOf(g.house, s).Value
			for tick := range ticks {
				if s.Lower.Vel == 0 && s.Upper.Vel == 0 {
					t.Fatalf("%+v: they stand behind %d ticks of %d: %+v", h, tick, ticks, s)
				}
				s = impl.StepShaft(h, s, brake, brake, h.Drift, -h.Drift).Shaft
				if left := impl.SpareOf(h, s).Value; left < spare {
					t.Fatalf("%+v: %d is left to spare, not %d: %+v", h, left, spare, s)
				}
			}
			if s.Lower.Vel != 0 || s.Upper.Vel != 0 {
				t.Fatalf("%+v: they do not stand behind %d ticks: %+v", h, ticks, s)
			}
		}
	}
}

// The shaft goes ahead of the lower command, that ahead of the upper one, and
// that ahead of the drifts; all else is zero then, and no pair may go.
func TestGuardAsksInOrder(t *testing.T) {
	right := impl.Shaft{Upper: standing(800)}
	nearShaft, farShaft := impl.Shaft{Upper: standing(99)}, impl.Shaft{Upper: standing(1253)}
	formLower, farLower := impl.Shaft{Lower: impl.Car{Vel: 1, Door: 1}, Upper: standing(1253)}, impl.Shaft{Lower: standing(-453), Upper: impl.Car{Vel: 1, Door: 1}}
	fastShaft := impl.Shaft{Upper: impl.Car{Pos: 1153, Vel: 50}}
	form, far, open := impl.Command{Brake: true, Open: true}, impl.Command{Push: 11}, impl.Command{Push: 1, Open: true}
	none := impl.Command{}
	rows := []struct {
		name           string
		house          impl.House
		shaft          impl.Shaft
		lower, upper   impl.Command
		driftL, driftU int64
		want           int64
	}{
		{"a near house", nearHouse(), right, none, none, 0, 0, impl.ErrForm},
		{"a near house ahead of all", nearHouse(), farShaft, far, far, 1, 1, impl.ErrForm},
		{"a house out of range ahead of all", outHouse(), nearShaft, form, form, 0, 0, impl.ErrRange},
		{"no house", impl.House{}, impl.Shaft{}, none, none, 0, 0, impl.ErrRange},
		{"lower ahead of upper", exampleHouse(), formLower, far, far, 1, 1, impl.ErrForm},
		{"lower ahead of upper, turned", exampleHouse(), farLower, form, form, 0, 0, impl.ErrRange},
		{"a shaft too near", exampleHouse(), nearShaft, none, none, 0, 0, impl.ErrForm},
		{"a shaft too near ahead of the commands", exampleHouse(), nearShaft, far, far, 1, -1, impl.ErrForm},
		{"a car beyond", exampleHouse(), farShaft, form, form, 0, 0, impl.ErrRange},
		{"a car that cannot stop within", exampleHouse(), fastShaft, form, form, 0, 0, impl.ErrRange},
		{"the lower command, in form", exampleHouse(), right, form, none, 0, 0, impl.ErrForm},
		{"the lower command, in range", exampleHouse(), right, far, none, 0, 0, impl.ErrRange},
		{"the lower command ahead of the upper", exampleHouse(), right, form, far, 1, 1, impl.ErrForm},
		{"the lower command ahead of the upper, turned", exampleHouse(), right, far, form, 0, 0, impl.ErrRange},
		{"the upper command, in form", exampleHouse(), right, none, open, 0, 0, impl.ErrForm},
		{"the upper command, in range", exampleHouse(), right, none, far, 0, 0, impl.ErrRange},
		{"the upper command ahead of the drifts", exampleHouse(), right, none, open, 1, -1, impl.ErrForm},
	}
	for _, r := range rows {
		if got := impl.StepShaft(r.house, r.shaft, r.lower, r.upper, r.driftL, r.driftU); got != (impl.ShaftResult{Code: r.want}) {
			t.Errorf("%s: StepShaft is %+v", r.name, got)
		}
		if got := impl.GuardPair(r.house, r.shaft, r.lower, r.upper); got != (impl.PairResult{Code: r.want}) {
			t.Errorf("%s: GuardPair is %+v", r.name, got)
		}
		if impl.MayGo(r.house, r.shaft, r.lower, r.upper) {
			t.Errorf("%s: it may go", r.name)
		}
	}
}

func TestDriftsOfAShaft(t *testing.T) {
	h := driftHouse()
	s := impl.Shaft{Upper: standing(800)}
	rows := []struct {
		driftL, driftU int64
		want           int64
	}{
		{0, 0, impl.OK},
		{4, 4, impl.OK}, {-4, -4, impl.OK}, {4, -4, impl.OK}, {-4, 4, impl.OK},
		{5, 0, impl.ErrRange}, {-5, 0, impl.ErrRange}, {0, 5, impl.ErrRange}, {0, -5, impl.ErrRange},
		{5, -5, impl.ErrRange}, {least, 0, impl.ErrRange}, {0, least, impl.ErrRange},
		{greatest, 4, impl.ErrRange}, {-4, greatest, impl.ErrRange},
	}
	for _, r := range rows {
		got := impl.StepShaft(h, s, impl.Command{}, impl.Command{}, r.driftL, r.driftU)
		if got.Code != r.want || r.want != impl.OK && got != (impl.ShaftResult{Code: r.want}) {
			t.Errorf("StepShaft with drifts %d, %d is %+v", r.driftL, r.driftU, got)
		}
	}
}

// WorstHigh and WorstLow ask the car ahead of the command, HaltShaft and
// SpareOf the shaft.
func TestMeasuresOfTheGuardAskInOrder(t *testing.T) {
	formCar, farCar := impl.Car{Vel: 1, Door: 1}, impl.Car{Pos: 1253}
	form, far := impl.Command{Brake: true, Open: true}, impl.Command{Push: 11}
	worst := []struct {
		house   impl.House
		car     impl.Car
		command impl.Command
		want    int64
	}{
		{nearHouse(), farCar, far, impl.ErrForm},
		{outHouse(), formCar, form, impl.ErrRange},
		{impl.House{}, impl.Car{}, impl.Command{}, impl.ErrRange},
		{exampleHouse(), formCar, far, impl.ErrForm},
		{exampleHouse(), farCar, form, impl.ErrRange},
		{exampleHouse(), impl.Car{Pos: 5}, form, impl.ErrForm},
		{exampleHouse(), impl.Car{Pos: 5}, far, impl.ErrRange},
		{exampleHouse(), impl.Car{Pos: 5, Door: 1}, far, impl.ErrRange},
	}
	for i, r := range worst {
		want := impl.IntResult{Code: r.want}
		high, low := impl.WorstHigh(r.house, r.car, r.command), impl.WorstLow(r.house, r.car, r.command)
		if high != want || low != want {
			t.Errorf("row %d: WorstHigh is %+v, WorstLow %+v", i, high, low)
		}
	}
	shafts := []struct {
		house        impl.House
		lower, upper impl.Car
		want         int64
	}{
		{nearHouse(), farCar, farCar, impl.ErrForm},
		{outHouse(), formCar, formCar, impl.ErrRange},
		{exampleHouse(), formCar, farCar, impl.ErrForm},
		{exampleHouse(), farCar, formCar, impl.ErrRange},
		{exampleHouse(), impl.Car{}, standing(99), impl.ErrForm},
		{exampleHouse(), impl.Car{}, impl.Car{Pos: 1153, Vel: 50}, impl.ErrRange},
		{exampleHouse(), impl.Car{Pos: -353, Vel: -50}, standing(800), impl.ErrRange},
	}
	for i, r := range shafts {
		want, s := impl.IntResult{Code: r.want}, impl.Shaft{Lower: r.lower, Upper: r.upper}
		if halt, spare := impl.HaltShaft(r.house, s), impl.SpareOf(r.house, s); halt != want || spare != want {
			t.Errorf("shaft %d: HaltShaft is %+v, SpareOf %+v", i, halt, spare)
		}
	}
}

// A house that stands on its head is the same house: whether a pair may go does
// not hang on which way is up.
func TestMayGoTurnedRound(t *testing.T) {
	for _, g := range allGuards() {
		h := g.house
		for _, s := range g.nearShafts() {
			if g.shaftFault(s) != impl.OK {
				continue
			}
			head := impl.Shaft{Lower: turned(h, s.Upper), Upper: turned(h, s.Lower)}
			for _, lower := range g.fewCommands() {
				for _, upper := range g.fewCommands() {
					a, b := upper, lower
					a.Push, b.Push = -a.Push, -b.Push
					if impl.MayGo(h, s, lower, upper) != impl.MayGo(h, head, a, b) {
						t.Fatalf("MayGo(%+v, %+v, %+v, %+v) is another one turned round", h, s, lower, upper)
					}
				}
			}
		}
	}
}

type guardAnswers struct {
	high, low, halt, spare impl.IntResult
	may                    bool
	pair                   impl.PairResult
	step                   impl.ShaftResult
}

func guardAnswersAt(h impl.House, a, b, n int64) guardAnswers {
	c := impl.Car{Pos: a, Vel: b, Door: max(0, n)}
	x, y := impl.Command{Push: n, Open: a > 50}, impl.Command{Push: a, Brake: b > 1}
	s := impl.Shaft{Lower: impl.Car{Vel: b}, Upper: impl.Car{Pos: a, Vel: n}}
	return guardAnswers{
		impl.WorstHigh(h, c, x), impl.WorstLow(h, c, x), impl.HaltShaft(h, s), impl.SpareOf(h, s),
		impl.MayGo(h, s, x, y), impl.GuardPair(h, s, x, y), impl.StepShaft(h, s, x, y, n, b),
	}
}

func guardAnswersEverywhere() []guardAnswers {
	var list []guardAnswers
	numbers := []int64{least, least + 1, -big1, -51, -1, 0, 1, 50, 100, 120, big1, greatest - 1, greatest}
	for _, h := range append(housesOfAllKinds(), driftHouse()) {
		for _, a := range numbers {
			for _, b := range numbers {
				for _, n := range numbers {
					list = append(list, guardAnswersAt(h, a, b, n))
				}
			}
		}
	}
	return list
}

// Every call of chapter 5 answers whatever it is given, and the same again when
// other calls stood between.
func TestGuardAnswersEverywhere(t *testing.T) {
	sameTwice(t, guardAnswersEverywhere)
}
