package tests

import (
	"testing"

	"loop.example/g00155/impl"
)

// plant is what the document tells of the cars of a house, worked out the plain
// way: who brakes is followed tick by tick.
type plant struct {
	house impl.House
	plan  plan
}

func plantOf(h impl.House) plant {
	return plant{house: h, plan: planOf(h)}
}

func (p plant) carFault(c impl.Car) int64 {
	h := p.house
	switch {
	case p.plan.fault != impl.OK:
		return p.plan.fault
	case c.Pos < p.plan.low || c.Pos > p.plan.high, c.Vel < -h.Speed || c.Vel > h.Speed, c.Door < 0 || c.Door > h.Door:
		return impl.ErrRange
	case c.Door > 0 && c.Vel != 0:
		return impl.ErrForm
	}
	return impl.OK
}

func (p plant) commandFault(x impl.Command) int64 {
	switch {
	case p.plan.fault != impl.OK:
		return p.plan.fault
	case x.Push < -p.house.Push || x.Push > p.house.Push:
		return impl.ErrRange
	}
	asked := 0
	for _, isAsked := range []bool{x.Push != 0, x.Brake, x.Open} {
		if isAsked {
			asked++
		}
	}
	if asked > 1 {
		return impl.ErrForm
	}
	return impl.OK
}

// braked is the speed that is left of one behind a tick of braking.
func braked(vel, brake int64) int64 {
	if vel > 0 {
		return max(vel-brake, 0)
	}
	return min(vel+brake, 0)
}

// ends are the lowest and the highest place that a car comes to as it brakes.
func (p plant) ends(c impl.Car) (int64, int64) {
	low, high, pos := c.Pos, c.Pos, c.Pos
	for vel := c.Vel; vel != 0; {
		vel = braked(vel, p.house.Brake)
		pos += vel
		low, high = min(low, pos), max(high, pos)
	}
	return low, high
}

func (p plant) shaftFault(s impl.Shaft) int64 {
	for _, c := range []impl.Car{s.Lower, s.Upper} {
		if fault := p.carFault(c); fault != impl.OK {
			return fault
		}
	}
	lowestLower, highestLower := p.ends(s.Lower)
	lowestUpper, highestUpper := p.ends(s.Upper)
	switch {
	case highestLower+p.house.Length > lowestUpper:
		return impl.ErrForm
	case highestUpper > p.plan.high || lowestLower < p.plan.low:
		return impl.ErrRange
	}
	return impl.OK
}

func (p plant) step(c impl.Car, x impl.Command, drift int64) impl.CarResult {
	h := p.house
	for _, fault := range []int64{p.carFault(c), p.commandFault(x)} {
		if fault != impl.OK {
			return impl.CarResult{Code: fault}
		}
	}
	if drift < -h.Drift || drift > h.Drift {
		return impl.CarResult{Code: impl.ErrRange}
	}
	if c.Door != 0 || x.Open && c.Vel == 0 {
		switch {
		case !x.Open:
			c.Door--
		case c.Door < h.Door:
			c.Door++
		}
		return impl.CarResult{Car: c}
	}
	vel := c.Vel + x.Push + drift
	if x.Brake || x.Open {
		vel = braked(c.Vel, h.Brake)
	}
	vel = min(max(vel, -h.Speed), h.Speed)
	return impl.CarResult{Car: impl.Car{Pos: c.Pos + vel, Vel: vel}}
}

func (p plant) standsAt(c impl.Car, floor int64) bool {
	if p.carFault(c) != impl.OK || c.Vel != 0 || floor < 0 || floor >= p.house.Floors {
		return false
	}
	place := p.plan.places[floor+1]
	return place-p.house.Level <= c.Pos && c.Pos <= place+p.house.Level
}

// around are a number and those next to it.
func around(list ...int64) []int64 {
	var all []int64
	for _, n := range list {
		all = append(all, n-1, n, n+1)
	}
	return all
}

func (p plant) edgePlaces() []int64 {
	list := append(outside(p.plan.low, p.plan.high), p.plan.low, p.plan.low+1, p.plan.high-1, p.plan.high)
	for _, place := range p.plan.places {
		list = append(list, place)
		list = append(list, around(place-p.house.Level, place+p.house.Level)...)
	}
	return list
}

func (p plant) edgeSpeeds() []int64 {
	h := p.house
	return append(outside(-h.Speed, h.Speed), append(around(-h.Brake, 0, h.Brake), -h.Speed, 1-h.Speed, h.Speed-1, h.Speed)...)
}

func (p plant) edgeDoors() []int64 {
	return append(outside(0, p.house.Door), 0, 1, p.house.Door-1, p.house.Door)
}

func (p plant) edgeCommands() []impl.Command {
	var list []impl.Command
	h := p.house
	for _, push := range append(outside(-h.Push, h.Push), -h.Push, 1-h.Push, -1, 0, 1, h.Push-1, h.Push) {
		for i := range 4 {
			list = append(list, impl.Command{Push: push, Brake: i&1 != 0, Open: i&2 != 0})
		}
	}
	return list
}

func (p plant) edgeDrifts() []int64 {
	h := p.house
	return append(outside(-h.Drift, h.Drift), -h.Drift, 0, h.Drift)
}

func (p plant) edgeFloors() []int64 {
	return append(outside(-1, p.house.Floors), -1, 0, 1, p.house.Floors-1, p.house.Floors)
}

// fewCars are cars of each kind: that move, stand, open, and have a fault.
func (p plant) fewCars() []impl.Car {
	h, low, high := p.house, p.plan.low, p.plan.high
	return []impl.Car{
		{}, {Pos: low}, {Pos: high}, {Pos: low - 1}, {Pos: high + 1}, {Pos: least}, {Pos: greatest},
		{Vel: 1}, {Vel: -1}, {Vel: h.Speed}, {Vel: -h.Speed}, {Vel: h.Speed + 1}, {Vel: -h.Speed - 1},
		{Vel: min(h.Speed, h.Brake)}, {Vel: -min(h.Speed, h.Brake)}, {Pos: high, Vel: h.Speed}, {Pos: low, Vel: -h.Speed},
		{Door: 1}, {Door: h.Door - 1}, {Door: h.Door}, {Door: -1}, {Door: h.Door + 1}, {Pos: 3, Door: 1},
		{Vel: 1, Door: 1}, {Vel: -h.Speed, Door: h.Door}, {Pos: high + 1, Vel: 1, Door: 1},
	}
}

// nearHouse and outHouse are houses of the two faults that there are.
func nearHouse() impl.House {
	h := exampleHouse()
	h.Gap = impl.ApartOf(h).Value - 1
	return h
}

func outHouse() impl.House {
	h := exampleHouse()
	h.Queue = 41
	return h
}

func allPlants() []plant {
	list := []plant{plantOf(nearHouse()), plantOf(outHouse()), plantOf(impl.House{})}
	for _, h := range rightHouses() {
		list = append(list, plantOf(h))
	}
	return list
}

func (p plant) holdsCar(t *testing.T, c impl.Car) {
	t.Helper()
	fault := p.carFault(c)
	if got := impl.CarFault(p.house, c); got != fault {
		t.Fatalf("CarFault(%+v, %+v) is %d, not %d", p.house, c, got, fault)
	}
	low, high := int64(0), int64(0)
	if fault == impl.OK {
		low, high = p.ends(c)
	}
	if got := impl.HighOf(p.house, c); got != (impl.IntResult{Code: fault, Value: high}) {
		t.Fatalf("HighOf(%+v, %+v) is %+v, not %d, code %d", p.house, c, got, high, fault)
	}
	if got := impl.LowOf(p.house, c); got != (impl.IntResult{Code: fault, Value: low}) {
		t.Fatalf("LowOf(%+v, %+v) is %+v, not %d, code %d", p.house, c, got, low, fault)
	}
}

func (p plant) holdsStep(t *testing.T, c impl.Car, x impl.Command, drift int64) {
	t.Helper()
	want := p.step(c, x, drift)
	if got := impl.StepCar(p.house, c, x, drift); got != want {
		t.Fatalf("StepCar(%+v, %+v, %+v, %d) is %+v, not %+v", p.house, c, x, drift, got, want)
	}
}

func (p plant) holdsShaft(t *testing.T, s impl.Shaft) {
	t.Helper()
	want := p.shaftFault(s)
	if got := impl.ShaftFault(p.house, s); got != want {
		t.Fatalf("ShaftFault(%+v, %+v) is %d, not %d", p.house, s, got, want)
	}
}

func TestCarsOfAllEdges(t *testing.T) {
	for _, p := range allPlants() {
		for _, pos := range p.edgePlaces() {
			for _, vel := range p.edgeSpeeds() {
				for _, door := range p.edgeDoors() {
					c := impl.Car{Pos: pos, Vel: vel, Door: door}
					p.holdsCar(t, c)
					p.holdsStep(t, c, impl.Command{Open: true}, p.house.Drift)
					p.holdsStep(t, c, impl.Command{Brake: true}, -p.house.Drift)
					p.holdsStep(t, c, impl.Command{Push: p.house.Push}, p.house.Drift)
				}
			}
		}
	}
}

func TestCarsAtEverySpeed(t *testing.T) {
	for _, h := range rightHouses() {
		p := plantOf(h)
		for vel := -h.Speed - 1; vel <= h.Speed+1; vel++ {
			p.holdsCar(t, impl.Car{Pos: 1, Vel: vel})
			p.holdsCar(t, impl.Car{Pos: -1, Vel: vel, Door: 1})
		}
	}
}

func TestCommandsOfAllEdges(t *testing.T) {
	for _, p := range allPlants() {
		for _, x := range p.edgeCommands() {
			if got, want := impl.CommandFault(p.house, x), p.commandFault(x); got != want {
				t.Errorf("CommandFault(%+v, %+v) is %d, not %d", p.house, x, got, want)
			}
			for _, c := range p.fewCars() {
				for _, drift := range p.edgeDrifts() {
					p.holdsStep(t, c, x, drift)
				}
			}
		}
	}
}

// Two cars each of which may be at fault, near the other one, and near the ends.
func TestShaftsOfAllEdges(t *testing.T) {
	for _, p := range allPlants() {
		for _, lower := range p.fewCars() {
			for _, upper := range p.fewCars() {
				p.holdsShaft(t, impl.Shaft{Lower: lower, Upper: upper})
			}
			if p.carFault(lower) != impl.OK {
				continue
			}
			_, high := p.ends(lower)
			for _, vel := range p.edgeSpeeds() {
				low, _ := p.ends(impl.Car{Vel: max(-p.house.Speed, min(vel, p.house.Speed))})
				for _, pos := range around(high-low, high-low+p.house.Length, p.plan.high) {
					p.holdsShaft(t, impl.Shaft{Lower: lower, Upper: impl.Car{Pos: pos, Vel: vel}})
				}
			}
		}
	}
}

func standing(pos int64) impl.Car {
	return impl.Car{Pos: pos}
}

// The example's LowEnd is -452, its HighEnd 1252, and its Length 100.
func TestShaftsByHand(t *testing.T) {
	h := exampleHouse()
	rows := []struct {
		name         string
		lower, upper impl.Car
		want         int64
	}{
		{"just Length", standing(0), standing(100), impl.OK},
		{"one less", standing(0), standing(99), impl.ErrForm},
		{"at one place", standing(5), standing(5), impl.ErrForm},
		{"turned round", standing(800), standing(0), impl.ErrForm},
		{"both come near: 60 and 30", impl.Car{Vel: 40}, impl.Car{Pos: 190, Vel: -30}, impl.OK},
		{"both come near, one less", impl.Car{Vel: 40}, impl.Car{Pos: 189, Vel: -30}, impl.ErrForm},
		{"they go apart", impl.Car{Vel: -40}, impl.Car{Pos: 100, Vel: 30}, impl.OK},
		{"one behind the other", impl.Car{Vel: 50}, impl.Car{Pos: 199, Vel: 50}, impl.ErrForm},
		{"one behind the other, farther", impl.Car{Vel: 50}, impl.Car{Pos: 200, Vel: 50}, impl.OK},
		{"just HighEnd", standing(0), impl.Car{Pos: 1152, Vel: 50}, impl.OK},
		{"one beyond HighEnd", standing(0), impl.Car{Pos: 1153, Vel: 50}, impl.ErrRange},
		{"just LowEnd", impl.Car{Pos: -352, Vel: -50}, standing(800), impl.OK},
		{"one beyond LowEnd", impl.Car{Pos: -353, Vel: -50}, standing(800), impl.ErrRange},
		{"stands at HighEnd", standing(0), standing(1252), impl.OK},
		{"stands beyond HighEnd", standing(0), standing(1253), impl.ErrRange},
		{"stands at LowEnd", standing(-452), standing(800), impl.OK},
		{"stands beyond LowEnd", standing(-453), standing(800), impl.ErrRange},
		{"away from HighEnd", standing(0), impl.Car{Pos: 1252, Vel: -50}, impl.OK},
		{"away from LowEnd", impl.Car{Pos: -452, Vel: 50}, standing(800), impl.OK},
		{"doors open", impl.Car{Door: 2}, impl.Car{Pos: 800, Door: 1}, impl.OK},
		{"near goes ahead of HighEnd", standing(1200), impl.Car{Pos: 1252, Vel: 20}, impl.ErrForm},
		{"near goes ahead of LowEnd", impl.Car{Pos: -452, Vel: -20}, standing(-400), impl.ErrForm},
		{"fault of lower", impl.Car{Vel: 1, Door: 1}, standing(800), impl.ErrForm},
		{"fault of upper", standing(0), impl.Car{Pos: 800, Vel: 1, Door: 1}, impl.ErrForm},
		{"lower goes ahead of upper", impl.Car{Vel: 1, Door: 1}, standing(1253), impl.ErrForm},
		{"lower goes ahead of upper, turned", standing(-453), impl.Car{Pos: 800, Vel: 1, Door: 1}, impl.ErrRange},
		{"a car goes ahead of near", standing(0), impl.Car{Pos: 50, Vel: 51}, impl.ErrRange},
		{"the least and the greatest", standing(least), standing(greatest), impl.ErrRange},
	}
	for _, r := range rows {
		s := impl.Shaft{Lower: r.lower, Upper: r.upper}
		if got := impl.ShaftFault(h, s); got != r.want {
			t.Errorf("%s: ShaftFault(%+v) is %d, not %d", r.name, s, got, r.want)
		}
	}
}

func TestCarsByHand(t *testing.T) {
	h := exampleHouse()
	rows := []struct {
		car  impl.Car
		want int64
	}{
		{impl.Car{}, impl.OK},
		{impl.Car{Pos: -452}, impl.OK},
		{impl.Car{Pos: -453}, impl.ErrRange},
		{impl.Car{Pos: 1252}, impl.OK},
		{impl.Car{Pos: 1253}, impl.ErrRange},
		{impl.Car{Vel: 50}, impl.OK},
		{impl.Car{Vel: 51}, impl.ErrRange},
		{impl.Car{Vel: -50}, impl.OK},
		{impl.Car{Vel: -51}, impl.ErrRange},
		{impl.Car{Door: 1}, impl.OK},
		{impl.Car{Door: 2}, impl.OK},
		{impl.Car{Door: 3}, impl.ErrRange},
		{impl.Car{Door: -1}, impl.ErrRange},
		{impl.Car{Vel: 1, Door: 1}, impl.ErrForm},
		{impl.Car{Vel: -1, Door: 2}, impl.ErrForm},
		{impl.Car{Vel: 51, Door: 2}, impl.ErrRange},
		{impl.Car{Vel: 1, Door: 3}, impl.ErrRange},
		{impl.Car{Pos: 1253, Vel: 1, Door: 2}, impl.ErrRange},
		// It could not stop within the shaft: that is asked of a shaft alone.
		{impl.Car{Pos: 1252, Vel: 50}, impl.OK},
	}
	for _, r := range rows {
		if got := impl.CarFault(h, r.car); got != r.want {
			t.Errorf("CarFault(%+v) is %d, not %d", r.car, got, r.want)
		}
	}
	wantInt(t, "HighOf who rises", impl.HighOf(h, impl.Car{Pos: 10, Vel: 30}), 40)
	wantInt(t, "LowOf who rises", impl.LowOf(h, impl.Car{Pos: 10, Vel: 30}), 10)
	wantInt(t, "HighOf who sinks", impl.HighOf(h, impl.Car{Pos: 10, Vel: -30}), 10)
	wantInt(t, "LowOf who sinks", impl.LowOf(h, impl.Car{Pos: 10, Vel: -30}), -20)
	wantInt(t, "HighOf at full speed", impl.HighOf(h, impl.Car{Pos: 1252, Vel: 50}), 1352)
	wantInt(t, "LowOf at full speed", impl.LowOf(h, impl.Car{Pos: -452, Vel: -50}), -552)
	wantInt(t, "HighOf who stands", impl.HighOf(h, impl.Car{Pos: -9, Door: 2}), -9)
	wantInt(t, "LowOf who stands", impl.LowOf(h, impl.Car{Pos: -9, Door: 2}), -9)
}

func TestCommandsByHand(t *testing.T) {
	h := exampleHouse()
	rows := []struct {
		command impl.Command
		want    int64
	}{
		{impl.Command{}, impl.OK},
		{impl.Command{Push: 10}, impl.OK},
		{impl.Command{Push: -10}, impl.OK},
		{impl.Command{Push: 11}, impl.ErrRange},
		{impl.Command{Push: -11}, impl.ErrRange},
		{impl.Command{Push: least}, impl.ErrRange},
		{impl.Command{Brake: true}, impl.OK},
		{impl.Command{Open: true}, impl.OK},
		{impl.Command{Brake: true, Open: true}, impl.ErrForm},
		{impl.Command{Push: 1, Brake: true}, impl.ErrForm},
		{impl.Command{Push: -1, Open: true}, impl.ErrForm},
		{impl.Command{Push: 1, Brake: true, Open: true}, impl.ErrForm},
		{impl.Command{Push: 11, Brake: true}, impl.ErrRange},
		{impl.Command{Push: -11, Open: true}, impl.ErrRange},
	}
	for _, r := range rows {
		if got := impl.CommandFault(h, r.command); got != r.want {
			t.Errorf("CommandFault(%+v) is %d, not %d", r.command, got, r.want)
		}
	}
}

func TestStepsByHand(t *testing.T) {
	h := exampleHouse()
	h.Drift = 4
	open, brake := impl.Command{Open: true}, impl.Command{Brake: true}
	rows := []struct {
		name      string
		car       impl.Car
		command   impl.Command
		drift     int64
		want      impl.Car
		wantFault int64
	}{
		{"pushed up", impl.Car{Pos: 10, Vel: 30}, impl.Command{Push: 10}, 0, impl.Car{Pos: 50, Vel: 40}, 0},
		{"pushed down", impl.Car{Pos: 10, Vel: 5}, impl.Command{Push: -10}, 0, impl.Car{Pos: 5, Vel: -5}, 0},
		{"let go", impl.Car{Pos: 10, Vel: 30}, impl.Command{}, 0, impl.Car{Pos: 40, Vel: 30}, 0},
		{"drifts up", impl.Car{Pos: 10}, impl.Command{}, 4, impl.Car{Pos: 14, Vel: 4}, 0},
		{"drifts down", impl.Car{Pos: 10, Vel: 30}, impl.Command{Push: 10}, -4, impl.Car{Pos: 46, Vel: 36}, 0},
		{"not beyond Speed", impl.Car{Vel: 45}, impl.Command{Push: 10}, 0, impl.Car{Pos: 50, Vel: 50}, 0},
		{"not beyond Speed by drift", impl.Car{Vel: 50}, impl.Command{}, 4, impl.Car{Pos: 50, Vel: 50}, 0},
		{"drift taken ahead of the bound", impl.Car{Vel: 45}, impl.Command{Push: 10}, -4, impl.Car{Pos: 50, Vel: 50}, 0},
		{"not beyond -Speed", impl.Car{Vel: -45}, impl.Command{Push: -10}, -4, impl.Car{Pos: -50, Vel: -50}, 0},
		{"brakes up", impl.Car{Pos: 10, Vel: 30}, brake, 0, impl.Car{Pos: 30, Vel: 20}, 0},
		{"brakes down", impl.Car{Pos: 10, Vel: -30}, brake, 4, impl.Car{Pos: -10, Vel: -20}, 0},
		{"brakes to a stand", impl.Car{Pos: 10, Vel: 7}, brake, -4, impl.Car{Pos: 10}, 0},
		{"stands and brakes", impl.Car{Pos: 10}, brake, 4, impl.Car{Pos: 10}, 0},
		{"opens while it moves", impl.Car{Pos: 10, Vel: 30}, open, 4, impl.Car{Pos: 30, Vel: 20}, 0},
		{"opens as it comes to stand", impl.Car{Pos: 10, Vel: -10}, open, -4, impl.Car{Pos: 10}, 0},
		{"opens while it stands", impl.Car{Pos: 10}, open, 4, impl.Car{Pos: 10, Door: 1}, 0},
		{"opens on its way", impl.Car{Pos: 10, Door: 1}, open, 0, impl.Car{Pos: 10, Door: 2}, 0},
		{"stays open", impl.Car{Pos: 10, Door: 2}, open, 0, impl.Car{Pos: 10, Door: 2}, 0},
		{"shuts", impl.Car{Pos: 10, Door: 2}, impl.Command{}, 4, impl.Car{Pos: 10, Door: 1}, 0},
		{"shuts on its way", impl.Car{Pos: 10, Door: 1}, impl.Command{}, -4, impl.Car{Pos: 10}, 0},
		{"shuts while it is pushed", impl.Car{Pos: 10, Door: 1}, impl.Command{Push: 10}, 4, impl.Car{Pos: 10}, 0},
		{"shuts while it brakes", impl.Car{Pos: 10, Door: 2}, brake, 0, impl.Car{Pos: 10, Door: 1}, 0},
		{"beyond HighEnd is not asked", impl.Car{Pos: 1252, Vel: 50}, impl.Command{}, 0, impl.Car{Pos: 1302, Vel: 50}, 0},
		{"beyond LowEnd is not asked", impl.Car{Pos: -452, Vel: -50}, brake, 0, impl.Car{Pos: -492, Vel: -40}, 0},
		{"brakes and opens", impl.Car{Pos: 10}, impl.Command{Brake: true, Open: true}, 0, impl.Car{}, impl.ErrForm},
		{"opens and is pushed", impl.Car{Pos: 10}, impl.Command{Push: 1, Open: true}, 0, impl.Car{}, impl.ErrForm},
		{"drifts too far up", impl.Car{Pos: 10}, impl.Command{}, 5, impl.Car{}, impl.ErrRange},
		{"drifts too far down", impl.Car{Pos: 10, Door: 1}, impl.Command{}, -5, impl.Car{}, impl.ErrRange},
		{"the least drift", impl.Car{Pos: 10}, brake, least, impl.Car{}, impl.ErrRange},
	}
	for _, r := range rows {
		want := impl.CarResult{Code: r.wantFault, Car: r.want}
		if got := impl.StepCar(h, r.car, r.command, r.drift); got != want {
			t.Errorf("%s: %+v, not %+v", r.name, got, want)
		}
	}
}

// The house goes ahead of the car, that ahead of the command, and that ahead of
// the drift, whichever code each of them has; all else is zero then.
func TestStepCarAsksInOrder(t *testing.T) {
	formCar, farCar := impl.Car{Vel: 1, Door: 1}, impl.Car{Pos: 1253}
	formCommand, farCommand := impl.Command{Brake: true, Open: true}, impl.Command{Push: 11}
	rows := []struct {
		house   impl.House
		car     impl.Car
		command impl.Command
		drift   int64
		want    int64
	}{
		{nearHouse(), farCar, farCommand, 1, impl.ErrForm},
		{nearHouse(), impl.Car{}, impl.Command{}, 0, impl.ErrForm},
		{outHouse(), formCar, formCommand, 0, impl.ErrRange},
		{outHouse(), impl.Car{}, impl.Command{}, 0, impl.ErrRange},
		{exampleHouse(), formCar, farCommand, 1, impl.ErrForm},
		{exampleHouse(), farCar, formCommand, 1, impl.ErrRange},
		{exampleHouse(), impl.Car{}, formCommand, 1, impl.ErrForm},
		{exampleHouse(), impl.Car{}, farCommand, 0, impl.ErrRange},
		{exampleHouse(), impl.Car{}, impl.Command{}, 1, impl.ErrRange},
		{exampleHouse(), impl.Car{}, impl.Command{}, -1, impl.ErrRange},
	}
	for i, r := range rows {
		want := impl.CarResult{Code: r.want}
		if got := impl.StepCar(r.house, r.car, r.command, r.drift); got != want {
			t.Errorf("row %d: %+v, not %+v", i, got, want)
		}
	}
}

// A fault of the house goes ahead of all else, in every function.
func TestHouseFaultGoesAhead(t *testing.T) {
	rows := []struct {
		house   impl.House
		car     impl.Car
		command impl.Command
		want    int64
	}{
		{nearHouse(), impl.Car{}, impl.Command{}, impl.ErrForm},
		{nearHouse(), impl.Car{Vel: greatest}, impl.Command{Push: least}, impl.ErrForm},
		{outHouse(), impl.Car{}, impl.Command{}, impl.ErrRange},
		{outHouse(), impl.Car{Vel: 1, Door: 1}, impl.Command{Push: 1, Open: true}, impl.ErrRange},
		{impl.House{}, impl.Car{}, impl.Command{}, impl.ErrRange},
	}
	for i, r := range rows {
		faults := []int64{
			impl.CarFault(r.house, r.car), impl.CommandFault(r.house, r.command),
			impl.ShaftFault(r.house, impl.Shaft{Lower: r.car, Upper: r.car}),
		}
		for k, got := range faults {
			if got != r.want {
				t.Errorf("row %d: fault %d is %d, not %d", i, k, got, r.want)
			}
		}
		wrong := impl.IntResult{Code: r.want}
		if high, low := impl.HighOf(r.house, r.car), impl.LowOf(r.house, r.car); high != wrong || low != wrong {
			t.Errorf("row %d: HighOf is %+v, LowOf %+v", i, high, low)
		}
		if got := impl.FreshShaft(r.house); got != (impl.ShaftResult{Code: r.want}) {
			t.Errorf("row %d: FreshShaft is %+v", i, got)
		}
		if impl.StandsAt(r.house, r.car, 0) {
			t.Errorf("row %d: it stands in a house with a fault", i)
		}
	}
}

func TestFreshShafts(t *testing.T) {
	for _, h := range rightHouses() {
		p := plantOf(h)
		want := impl.ShaftResult{Shaft: impl.Shaft{
			Lower: impl.Car{Pos: p.plan.places[1]},
			Upper: impl.Car{Pos: p.plan.places[h.Floors]},
		}}
		got := impl.FreshShaft(h)
		if got != want {
			t.Errorf("FreshShaft(%+v) is %+v, not %+v", h, got, want)
		}
		if fault := impl.ShaftFault(h, got.Shaft); fault != impl.OK {
			t.Errorf("ShaftFault of FreshShaft(%+v) is %d", h, fault)
		}
		if !impl.StandsAt(h, got.Shaft.Lower, 0) || !impl.StandsAt(h, got.Shaft.Upper, h.Floors-1) {
			t.Errorf("FreshShaft(%+v): a car does not stand at its floor", h)
		}
	}
}

func TestStandsAtAllEdges(t *testing.T) {
	for _, p := range allPlants() {
		for _, pos := range p.edgePlaces() {
			for _, floor := range p.edgeFloors() {
				for _, c := range []impl.Car{{Pos: pos}, {Pos: pos, Door: p.house.Door}, {Pos: pos, Door: p.house.Door + 1}, {Pos: pos, Vel: 1}, {Pos: pos, Vel: -1}} {
					if got, want := impl.StandsAt(p.house, c, floor), p.standsAt(c, floor); got != want {
						t.Fatalf("StandsAt(%+v, %+v, %d) is %t", p.house, c, floor, got)
					}
				}
			}
		}
	}
	h := exampleHouse()
	rows := []struct {
		car   impl.Car
		floor int64
		want  bool
	}{
		{impl.Car{}, 0, true},
		{impl.Car{Pos: 2}, 0, true},
		{impl.Car{Pos: 3}, 0, false},
		{impl.Car{Pos: -2}, 0, true},
		{impl.Car{Pos: -3}, 0, false},
		{impl.Car{Pos: 400, Door: 1}, 1, true},
		{impl.Car{Pos: 400, Door: 3}, 1, false},
		{impl.Car{Pos: 400, Vel: 1}, 1, false},
		{impl.Car{Pos: 400}, 0, false},
		{impl.Car{Pos: 798, Door: 2}, 2, true},
		{impl.Car{Pos: 797, Door: 2}, 2, false},
		// It is there, but a refuge is no floor.
		{impl.Car{Pos: -300}, -1, false},
		{impl.Car{Pos: 1100}, 3, false},
		{impl.Car{}, least, false},
		{impl.Car{}, greatest, false},
	}
	for _, r := range rows {
		if got := impl.StandsAt(h, r.car, r.floor); got != r.want {
			t.Errorf("StandsAt(%+v, %d) is %t", r.car, r.floor, got)
		}
	}
}

// Promise 4: who brakes, or is told to open while it moves, stays between
// LowOf and HighOf, comes just there, and opens no door ahead of that.
func TestWhoBrakesStaysBetweenItsEnds(t *testing.T) {
	for _, h := range rightHouses() {
		for vel := -h.Speed; vel <= h.Speed; vel++ {
			for _, x := range []impl.Command{{Brake: true}, {Open: true}} {
				brakesBetweenItsEnds(t, h, impl.Car{Pos: 1, Vel: vel}, x)
			}
		}
	}
}

func brakesBetweenItsEnds(t *testing.T, h impl.House, c impl.Car, x impl.Command) {
	t.Helper()
	low, high := impl.LowOf(h, c).Value, impl.HighOf(h, c).Value
	end := high
	if c.Vel < 0 {
		end = low
	}
	ticks := impl.StopTicks(max(c.Vel, -c.Vel), h.Brake).Value
	for tick := range ticks {
		r := impl.StepCar(h, c, x, h.Drift)
		isBetween := low <= r.Car.Pos && r.Car.Pos <= high
		if r.Code != impl.OK || !isBetween || r.Car.Door != 0 || (r.Car.Vel == 0) != (tick == ticks-1) {
			t.Fatalf("StepCar(%+v, %+v, %+v) is %+v, ends %d and %d", h, c, x, r, low, high)
		}
		c = r.Car
		nowLow, nowHigh := impl.LowOf(h, c).Value, impl.HighOf(h, c).Value
		if nowLow < low || nowHigh > high {
			t.Fatalf("%+v, %+v: the ends %d and %d grew to %d and %d", h, c, low, high, nowLow, nowHigh)
		}
	}
	if c.Pos != end || c.Vel != 0 {
		t.Fatalf("%+v, %+v: it stands at %+v, not at %d", h, x, c, end)
	}
}

// Promise 4: whose door is not shut does not move, whatever it is told.
func TestWhoseDoorIsNotShutDoesNotMove(t *testing.T) {
	for _, h := range rightHouses() {
		p := plantOf(h)
		for door := int64(1); door <= h.Door; door++ {
			for _, x := range p.edgeCommands() {
				for _, drift := range []int64{-h.Drift, 0, h.Drift} {
					r := impl.StepCar(h, impl.Car{Pos: 1, Door: door}, x, drift)
					isStill := r.Code == impl.OK && r.Car.Pos == 1 && r.Car.Vel == 0
					if isStill != (p.commandFault(x) == impl.OK) {
						t.Fatalf("StepCar(%+v, %+v): with door %d: %+v", h, x, door, r)
					}
				}
			}
		}
	}
}

// A door takes Door ticks to open, stays so, and takes as many to shut.
func TestDoorsOpenAndShut(t *testing.T) {
	for _, h := range rightHouses() {
		c := impl.Car{Pos: 1}
		for tick := range h.Door + 3 {
			c = impl.StepCar(h, c, impl.Command{Open: true}, h.Drift).Car
			if c != (impl.Car{Pos: 1, Door: min(tick+1, h.Door)}) {
				t.Fatalf("%+v: behind %d ticks of opening: %+v", h, tick+1, c)
			}
		}
		for tick := range h.Door {
			c = impl.StepCar(h, c, impl.Command{Push: h.Push}, -h.Drift).Car
			if c != (impl.Car{Pos: 1, Door: h.Door - tick - 1}) {
				t.Fatalf("%+v: behind %d ticks of shutting: %+v", h, tick+1, c)
			}
		}
		c = impl.StepCar(h, c, impl.Command{Push: h.Push}, 0).Car
		if c != (impl.Car{Pos: 1 + h.Push, Vel: h.Push}) {
			t.Fatalf("%+v: with its door shut it goes to %+v", h, c)
		}
	}
}

type plantAnswers struct {
	carFault, commandFault, shaftFault int64
	high, low                          impl.IntResult
	fresh                              impl.ShaftResult
	step                               impl.CarResult
	stands                             bool
}

func plantAnswersAt(h impl.House, a, b, n int64) plantAnswers {
	c := impl.Car{Pos: a, Vel: b, Door: n}
	x := impl.Command{Push: a, Brake: b > 0, Open: n > 0}
	s := impl.Shaft{Lower: c, Upper: impl.Car{Pos: b, Vel: n, Door: a}}
	return plantAnswers{
		impl.CarFault(h, c), impl.CommandFault(h, x), impl.ShaftFault(h, s),
		impl.HighOf(h, c), impl.LowOf(h, c), impl.FreshShaft(h),
		impl.StepCar(h, c, x, n), impl.StandsAt(h, c, n),
	}
}

// housesOfAllKinds are right ones, ones with each fault, and ones with a number
// far out of its bounds.
func housesOfAllKinds() []impl.House {
	houses := []impl.House{exampleHouse(), greatestHouse(), nearHouse(), outHouse(), {}}
	for _, f := range houseFields() {
		for _, n := range []int64{least, -1, 0, greatest} {
			h := oddHouse()
			*f.of(&h) = n
			houses = append(houses, h)
		}
	}
	return houses
}

func plantAnswersEverywhere() []plantAnswers {
	var list []plantAnswers
	numbers := []int64{least, least + 1, -big1, -fast, -51, -50, -1, 0, 1, 2, 50, 51, fast, big1, greatest - 1, greatest}
	for _, h := range housesOfAllKinds() {
		for _, a := range numbers {
			for _, b := range numbers {
				for _, n := range numbers {
					list = append(list, plantAnswersAt(h, a, b, n))
				}
			}
		}
	}
	return list
}

// Every call of chapter 3 answers whatever it is given, and the same again when
// other calls stood between.
func TestPlantAnswersEverywhere(t *testing.T) {
	sameTwice(t, plantAnswersEverywhere)
}
