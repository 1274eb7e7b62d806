package tests

import (
	"testing"

	"loop.example/g00155/impl"
)

// crawlHouse has ways that its cars do not end in MaxTicks.
func crawlHouse() impl.House {
	return impl.House{
		Floors: 3, Gap: 20000, Length: 9, Refuge: 5000, Speed: 1, Push: 1,
		Brake: 2, Drift: 0, Level: 1, Door: 1, Load: 1, Queue: 1,
	}
}

// heavyHouse has cars that are braked far better than they are pushed: its
// bound is near MaxTicks, and a car at full speed cannot stop by its push.
func heavyHouse() impl.House {
	return impl.House{
		Floors: 12, Gap: 20000, Length: 5, Refuge: 19000, Speed: 500, Push: 1,
		Brake: 7, Drift: 0, Level: 50, Door: 2, Load: 4, Queue: 9,
	}
}

// journey is what the document tells of a car that is sent to a floor, worked
// out the plain way: up and down each by words of their own.
type journey struct {
	plant
	needs []int64 // by speed: that, and how far it goes then as Push brakes it
}

func journeyOf(h impl.House) journey {
	j := journey{plant: plantOf(h)}
	if j.plan.fault != impl.OK {
		return j
	}
	for speed := range h.Speed + 1 {
		need := speed
		for vel := speed; vel > 0; need += vel {
			vel = max(vel-h.Push, 0)
		}
		j.needs = append(j.needs, need)
	}
	return j
}

func allJourneys() []journey {
	list := []journey{journeyOf(crawlHouse()), journeyOf(heavyHouse())}
	for _, p := range allPlants() {
		list = append(list, journeyOf(p.house))
	}
	return list
}

func (j journey) isFloor(floor int64) bool {
	return floor >= -1 && floor <= j.house.Floors
}

// way asks for a floor that there is.
func (j journey) way(c impl.Car, floor int64) int64 {
	return j.plan.places[floor+1] - c.Pos
}

func sizeOf(n int64) int64 {
	return max(n, -n)
}

// allowed is the greatest speed up to Speed that the path allows.
func (j journey) allowed(path int64) int64 {
	speed := j.house.Speed
	for j.needs[speed] > path {
		speed--
	}
	return speed
}

func (j journey) command(c impl.Car, floor int64) impl.Command {
	if j.carFault(c) != impl.OK || !j.isFloor(floor) || c.Door != 0 {
		return impl.Command{}
	}
	h, d := j.house, j.way(c, floor)
	if sizeOf(d) <= h.Level && sizeOf(c.Vel) <= h.Brake {
		return impl.Command{Brake: true}
	}
	speed := int64(0)
	if d >= 0 {
		speed = max(min(c.Vel+h.Push, h.Speed, j.allowed(d)), c.Vel-h.Push)
	} else {
		speed = min(max(c.Vel-h.Push, -h.Speed, -j.allowed(-d)), c.Vel+h.Push)
	}
	return impl.Command{Push: min(max(speed-c.Vel, -h.Push), h.Push)}
}

func (j journey) reached(c impl.Car, floor int64) bool {
	return j.carFault(c) == impl.OK && j.isFloor(floor) && c.Vel == 0 && sizeOf(j.way(c, floor)) <= j.house.Level
}

// trip is the car as it is ahead of each tick, up to the first that reached the
// floor, and whether it left the shaft in the tick behind the last one.
type trip struct {
	cars []impl.Car
	left bool
}

// tripOf asks for a car that may be sent.
func (j journey) tripOf(c impl.Car, floor int64, most int64) trip {
	r := trip{cars: []impl.Car{c}}
	for int64(len(r.cars)) <= most && !j.reached(c, floor) {
		c = j.step(c, j.command(c, floor), 0).Car
		if c.Pos < j.plan.low || c.Pos > j.plan.high {
			r.left = true
			break
		}
		r.cars = append(r.cars, c)
	}
	return r
}

func (r trip) run(ticks int64) impl.RunResult {
	last := int64(len(r.cars)) - 1
	if r.left && ticks > last {
		return impl.RunResult{Code: impl.ErrRange}
	}
	ticks = min(ticks, last)
	return impl.RunResult{Ticks: ticks, Car: r.cars[ticks]}
}

func (j journey) holdsSent(t *testing.T, c impl.Car, floor int64) {
	t.Helper()
	h := j.house
	if got, want := impl.CommandFor(h, c, floor), j.command(c, floor); got != want {
		t.Fatalf("CommandFor(%+v, %+v, %d) is %+v, not %+v", h, c, floor, got, want)
	}
	if got, want := impl.ReachedBy(h, c, floor), j.reached(c, floor); got != want {
		t.Fatalf("ReachedBy(%+v, %+v, %d) is %t", h, c, floor, got)
	}
	want := impl.IntResult{Code: j.carFault(c)}
	if want.Code == impl.OK && !j.isFloor(floor) {
		want.Code = impl.ErrRange
	}
	if want.Code == impl.OK {
		want.Value = sizeOf(j.way(c, floor))
	}
	if got := impl.FarOf(h, c, floor); got != want {
		t.Fatalf("FarOf(%+v, %+v, %d) is %+v, not %+v", h, c, floor, got, want)
	}
}

// turnSpeeds are those at which a command turns, and those beside them.
func (j journey) turnSpeeds() []int64 {
	h := j.house
	list := append(outside(-h.Speed, h.Speed), -h.Speed, h.Speed)
	return append(list, around(-h.Brake, -h.Push, 0, h.Push, h.Brake, h.Speed-h.Push, h.Push-h.Speed)...)
}

func TestSentCarsOfAllEdges(t *testing.T) {
	for _, j := range allJourneys() {
		for _, pos := range j.edgePlaces() {
			for _, vel := range j.turnSpeeds() {
				for _, floor := range j.edgeFloors() {
					j.holdsSent(t, impl.Car{Pos: pos, Vel: vel}, floor)
					j.holdsSent(t, impl.Car{Pos: pos, Vel: vel, Door: 1}, floor)
				}
			}
			for _, door := range j.edgeDoors() {
				for _, floor := range j.edgeFloors() {
					j.holdsSent(t, impl.Car{Pos: pos, Door: door}, floor)
				}
			}
		}
	}
}

// Paths that just allow a speed, and one less, below the floor and above it, at
// speeds from which that is just one Push away, and one more.
func TestPathsThatJustAllowASpeed(t *testing.T) {
	for _, j := range allJourneys() {
		for speed, need := range j.needs {
			s, push := int64(speed), j.house.Push
			for _, d := range around(need, -need) {
				pos := j.plan.places[1] - d
				for _, vel := range around(s-push, s, s+push, -s-push, -s, -s+push) {
					j.holdsSent(t, impl.Car{Pos: pos, Vel: vel}, 0)
				}
			}
		}
	}
}

func TestSentFromEveryPlaceAtEverySpeed(t *testing.T) {
	for _, h := range []impl.House{leastHouse(), oddHouse()} {
		j := journeyOf(h)
		for pos := j.plan.low - 1; pos <= j.plan.high+1; pos++ {
			for vel := -h.Speed - 1; vel <= h.Speed+1; vel++ {
				for _, floor := range []int64{-1, 1, h.Floors} {
					j.holdsSent(t, impl.Car{Pos: pos, Vel: vel}, floor)
				}
			}
		}
	}
}

// The example's Push and Brake are 10, its Speed 50, its Level 2; the floor 1
// stands at 400. SpeedFor of 40 and a push of 10 is 23: 23, 13 and 3.
func TestCommandsForByHand(t *testing.T) {
	h := exampleHouse()
	strong := h
	strong.Brake = 20
	brake := impl.Command{Brake: true}
	rows := []struct {
		name  string
		house impl.House
		car   impl.Car
		floor int64
		want  impl.Command
	}{
		{"stands at 0", h, impl.Car{}, 1, impl.Command{Push: 10}},
		{"stands above", h, impl.Car{Pos: 800}, 1, impl.Command{Push: -10}},
		{"to the refuge below", h, impl.Car{}, -1, impl.Command{Push: -10}},
		{"to the refuge above", h, impl.Car{Pos: 800}, 3, impl.Command{Push: 10}},
		{"below the refuge below", h, impl.Car{Pos: -452}, -1, impl.Command{Push: 10}},
		{"above the refuge above", h, impl.Car{Pos: 1252}, 3, impl.Command{Push: -10}},
		{"Vel and Push are just Speed", h, impl.Car{Vel: 40}, 1, impl.Command{Push: 10}},
		{"Vel and Push are one beyond Speed", h, impl.Car{Vel: 41}, 1, impl.Command{Push: 9}},
		{"down, just -Speed", h, impl.Car{Pos: 800, Vel: -40}, 1, impl.Command{Push: -10}},
		{"down, one beyond -Speed", h, impl.Car{Pos: 800, Vel: -41}, 1, impl.Command{Push: -9}},
		{"at Speed", h, impl.Car{Vel: 50}, 1, impl.Command{}},
		{"at -Speed", h, impl.Car{Pos: 800, Vel: -50}, 1, impl.Command{}},
		{"it goes away, up", h, impl.Car{Pos: 420, Vel: 5}, 1, impl.Command{Push: -10}},
		{"it goes away, down", h, impl.Car{Pos: 380, Vel: -5}, 1, impl.Command{Push: 10}},
		{"the path allows what it has", h, impl.Car{Pos: 360, Vel: 23}, 1, impl.Command{}},
		{"the path allows one more", h, impl.Car{Pos: 360, Vel: 22}, 1, impl.Command{Push: 1}},
		{"the path allows one less", h, impl.Car{Pos: 360, Vel: 24}, 1, impl.Command{Push: -1}},
		{"the path allows just Push less", h, impl.Car{Pos: 360, Vel: 33}, 1, impl.Command{Push: -10}},
		{"one fewer than Push less", h, impl.Car{Pos: 360, Vel: 32}, 1, impl.Command{Push: -9}},
		{"Vel less Push is above the path's", h, impl.Car{Pos: 360, Vel: 34}, 1, impl.Command{Push: -10}},
		{"far above the path's", h, impl.Car{Pos: 360, Vel: 50}, 1, impl.Command{Push: -10}},
		{"down, what it has", h, impl.Car{Pos: 440, Vel: -23}, 1, impl.Command{}},
		{"down, one more", h, impl.Car{Pos: 440, Vel: -22}, 1, impl.Command{Push: -1}},
		{"down, far above the path's", h, impl.Car{Pos: 440, Vel: -50}, 1, impl.Command{Push: 10}},
		{"it is there", h, impl.Car{Pos: 400}, 1, brake},
		{"just within Level, below", h, impl.Car{Pos: 398}, 1, brake},
		{"just within Level, above", h, impl.Car{Pos: 402}, 1, brake},
		{"one beyond Level, below", h, impl.Car{Pos: 397}, 1, impl.Command{Push: 3}},
		{"one beyond Level, above", h, impl.Car{Pos: 403}, 1, impl.Command{Push: -3}},
		{"just as fast as Brake", h, impl.Car{Pos: 398, Vel: 10}, 1, brake},
		{"just as fast, away", h, impl.Car{Pos: 398, Vel: -10}, 1, brake},
		{"one faster than Brake", h, impl.Car{Pos: 398, Vel: 11}, 1, impl.Command{Push: -9}},
		{"one faster, away", h, impl.Car{Pos: 398, Vel: -11}, 1, impl.Command{Push: 10}},
		{"at its place, one faster", h, impl.Car{Pos: 400, Vel: 11}, 1, impl.Command{Push: -10}},
		{"at its place, one faster down", h, impl.Car{Pos: 400, Vel: -11}, 1, impl.Command{Push: 10}},
		{"above within Level, one faster down", h, impl.Car{Pos: 402, Vel: -11}, 1, impl.Command{Push: 9}},
		{"Brake is asked, not Push", strong, impl.Car{Pos: 398, Vel: 20}, 1, brake},
		{"one faster than the better brake", strong, impl.Car{Pos: 398, Vel: 21}, 1, impl.Command{Push: -10}},
		{"the path asks Push, not Brake", strong, impl.Car{Pos: 360, Vel: 23}, 1, impl.Command{}},
		{"a door on its way", h, impl.Car{Door: 1}, 1, impl.Command{}},
		{"a door that is open there", h, impl.Car{Pos: 400, Door: 2}, 1, impl.Command{}},
		{"a floor too low", h, impl.Car{}, -2, impl.Command{}},
		{"a floor too high", h, impl.Car{}, 4, impl.Command{}},
		{"the least floor", h, impl.Car{}, least, impl.Command{}},
		{"the greatest floor", h, impl.Car{}, greatest, impl.Command{}},
		{"a car beyond", h, impl.Car{Pos: 1253}, 1, impl.Command{}},
		{"a car too fast", h, impl.Car{Vel: 51}, 1, impl.Command{}},
		{"a house too near", nearHouse(), impl.Car{}, 1, impl.Command{}},
		{"a house out of range", outHouse(), impl.Car{}, 1, impl.Command{}},
	}
	for _, r := range rows {
		if got := impl.CommandFor(r.house, r.car, r.floor); got != r.want {
			t.Errorf("%s: %+v, not %+v", r.name, got, r.want)
		}
	}
}

func TestReachedByHand(t *testing.T) {
	h := exampleHouse()
	rows := []struct {
		car   impl.Car
		floor int64
		want  bool
	}{
		{impl.Car{}, 0, true},
		{impl.Car{Pos: 2}, 0, true},
		{impl.Car{Pos: 3}, 0, false},
		{impl.Car{Pos: -2}, 0, true},
		{impl.Car{Pos: -3}, 0, false},
		{impl.Car{Pos: 400, Vel: 1}, 1, false},
		{impl.Car{Pos: 400, Vel: -1}, 1, false},
		{impl.Car{Pos: 400}, 2, false},
		// The door is not asked, and refuges are reached, too.
		{impl.Car{Pos: 400, Door: 2}, 1, true},
		{impl.Car{Pos: 400, Door: 3}, 1, false},
		{impl.Car{Pos: -302}, -1, true},
		{impl.Car{Pos: -303}, -1, false},
		{impl.Car{Pos: 1102}, 3, true},
		{impl.Car{Pos: 1103}, 3, false},
		{impl.Car{Pos: -300}, -2, false},
		{impl.Car{Pos: 1100}, 4, false},
		{impl.Car{}, least, false},
		{impl.Car{}, greatest, false},
	}
	for _, r := range rows {
		if got := impl.ReachedBy(h, r.car, r.floor); got != r.want {
			t.Errorf("ReachedBy(%+v, %d) is %t", r.car, r.floor, got)
		}
	}
	if impl.ReachedBy(nearHouse(), impl.Car{}, 0) || impl.ReachedBy(outHouse(), impl.Car{}, 0) {
		t.Error("it is reached in a house with a fault")
	}
}

func TestFarOfByHand(t *testing.T) {
	h := exampleHouse()
	wantInt(t, "up", impl.FarOf(h, impl.Car{}, 1), 400)
	wantInt(t, "down", impl.FarOf(h, impl.Car{Pos: 800, Vel: 50}, 1), 400)
	wantInt(t, "there", impl.FarOf(h, impl.Car{Pos: 400, Door: 2}, 1), 0)
	wantInt(t, "from end to refuge", impl.FarOf(h, impl.Car{Pos: 1252}, -1), 1552)
	wantInt(t, "from end to refuge, up", impl.FarOf(h, impl.Car{Pos: -452}, 3), 1552)
}

// From 0 to 400 it is at 150 behind five ticks, goes on at full speed for three
// more, as SpeedFor of 150 still is 50, then 40, 30, 20, 10, and brakes there.
func TestRunsByHand(t *testing.T) {
	h := exampleHouse()
	rows := []struct {
		name  string
		car   impl.Car
		floor int64
		ticks int64
		want  impl.RunResult
	}{
		{"no tick", impl.Car{Pos: 7, Vel: 9}, 1, 0, impl.RunResult{Car: impl.Car{Pos: 7, Vel: 9}}},
		{"one tick", impl.Car{}, 1, 1, impl.RunResult{Ticks: 1, Car: impl.Car{Pos: 10, Vel: 10}}},
		{"five ticks", impl.Car{}, 1, 5, impl.RunResult{Ticks: 5, Car: impl.Car{Pos: 150, Vel: 50}}},
		{"one tick fewer than it takes", impl.Car{}, 1, 12, impl.RunResult{Ticks: 12, Car: impl.Car{Pos: 400, Vel: 10}}},
		{"just as many", impl.Car{}, 1, 13, impl.RunResult{Ticks: 13, Car: impl.Car{Pos: 400}}},
		{"one more", impl.Car{}, 1, 14, impl.RunResult{Ticks: 13, Car: impl.Car{Pos: 400}}},
		{"MaxTicks", impl.Car{}, 1, 3000, impl.RunResult{Ticks: 13, Car: impl.Car{Pos: 400}}},
		{"down", impl.Car{Pos: 800}, 1, 3000, impl.RunResult{Ticks: 13, Car: impl.Car{Pos: 400}}},
		{"there already", impl.Car{Pos: 398}, 1, 3000, impl.RunResult{Car: impl.Car{Pos: 398}}},
		{"there, no tick", impl.Car{Pos: 402}, 1, 0, impl.RunResult{Car: impl.Car{Pos: 402}}},
		{"level, and still moves", impl.Car{Pos: 398, Vel: 10}, 1, 9, impl.RunResult{Ticks: 1, Car: impl.Car{Pos: 398}}},
		{"beside its level", impl.Car{Pos: 397}, 1, 9, impl.RunResult{Ticks: 2, Car: impl.Car{Pos: 400}}},
		{"just within HighEnd", impl.Car{Pos: 1252, Vel: 10}, 3, 1, impl.RunResult{Ticks: 1, Car: impl.Car{Pos: 1252}}},
		{"leaves HighEnd", impl.Car{Pos: 1252, Vel: 11}, 3, 1, impl.RunResult{Code: impl.ErrRange}},
		{"leaves HighEnd in no tick", impl.Car{Pos: 1252, Vel: 11}, 3, 0, impl.RunResult{Car: impl.Car{Pos: 1252, Vel: 11}}},
		{"leaves HighEnd later on", impl.Car{Pos: 1222, Vel: 40}, 0, 2, impl.RunResult{Code: impl.ErrRange}},
		{"leaves HighEnd later than asked", impl.Car{Pos: 1222, Vel: 40}, 0, 1, impl.RunResult{Ticks: 1, Car: impl.Car{Pos: 1252, Vel: 30}}},
		{"just within LowEnd", impl.Car{Pos: -452, Vel: -10}, -1, 1, impl.RunResult{Ticks: 1, Car: impl.Car{Pos: -452}}},
		{"leaves LowEnd", impl.Car{Pos: -452, Vel: -11}, -1, 1, impl.RunResult{Code: impl.ErrRange}},
		{"leaves LowEnd later on", impl.Car{Pos: -422, Vel: -40}, 2, 3000, impl.RunResult{Code: impl.ErrRange}},
		{"leaves LowEnd later than asked", impl.Car{Pos: -422, Vel: -40}, 2, 1, impl.RunResult{Ticks: 1, Car: impl.Car{Pos: -452, Vel: -30}}},
	}
	for _, r := range rows {
		if got := impl.RunTo(h, r.car, r.floor, r.ticks); got != r.want {
			t.Errorf("%s: %+v, not %+v", r.name, got, r.want)
		}
	}
	if impl.MaxTicks != 3000 {
		t.Error("MaxTicks")
	}
}

// The house and the car go ahead of floor and ticks, and those ahead of the
// door; all else is zero then.
func TestRunsAskInOrder(t *testing.T) {
	formCar, farCar, openCar := impl.Car{Vel: 1, Door: 1}, impl.Car{Pos: 1253}, impl.Car{Pos: 5, Door: 1}
	rows := []struct {
		name         string
		house        impl.House
		car          impl.Car
		floor, ticks int64
		want         int64
	}{
		{"a near house", nearHouse(), impl.Car{Pos: 5}, 0, 5, impl.ErrForm},
		{"a near house ahead of the car", nearHouse(), farCar, 4, -1, impl.ErrForm},
		{"a house out of range ahead of the car", outHouse(), formCar, 0, 0, impl.ErrRange},
		{"a house out of range ahead of the door", outHouse(), openCar, 0, 0, impl.ErrRange},
		{"no house", impl.House{}, impl.Car{}, 0, 0, impl.ErrRange},
		{"a car beyond", exampleHouse(), farCar, 0, 0, impl.ErrRange},
		{"a car that moves, its door open", exampleHouse(), formCar, 0, 0, impl.ErrForm},
		{"that, ahead of the floor", exampleHouse(), formCar, 4, 0, impl.ErrForm},
		{"that, ahead of the ticks", exampleHouse(), formCar, 0, 3001, impl.ErrForm},
		{"the floor, too high", exampleHouse(), impl.Car{Pos: 5}, 4, 0, impl.ErrRange},
		{"the floor, too low", exampleHouse(), impl.Car{Pos: 5}, -2, 0, impl.ErrRange},
		{"the floor ahead of the door", exampleHouse(), openCar, 4, 0, impl.ErrRange},
		{"the ticks, too many", exampleHouse(), impl.Car{Pos: 5}, 1, 3001, impl.ErrRange},
		{"the ticks, too few", exampleHouse(), impl.Car{Pos: 5}, 1, -1, impl.ErrRange},
		{"the ticks ahead of the door", exampleHouse(), openCar, 1, -1, impl.ErrRange},
		{"too many ahead of the door", exampleHouse(), openCar, 1, 3001, impl.ErrRange},
		{"the door, on its way", exampleHouse(), openCar, 1, 9, impl.ErrForm},
		{"the door, in no tick", exampleHouse(), openCar, 1, 0, impl.ErrForm},
		{"the door, and it is there", exampleHouse(), impl.Car{Door: 2}, 0, 9, impl.ErrForm},
	}
	for _, r := range rows {
		want := impl.RunResult{Code: r.want}
		if got := impl.RunTo(r.house, r.car, r.floor, r.ticks); got != want {
			t.Errorf("%s: %+v, not %+v", r.name, got, want)
		}
	}
	far := []struct {
		house impl.House
		car   impl.Car
		floor int64
		want  int64
	}{
		{nearHouse(), farCar, 4, impl.ErrForm},
		{outHouse(), formCar, 0, impl.ErrRange},
		{exampleHouse(), formCar, 4, impl.ErrForm},
		{exampleHouse(), farCar, 0, impl.ErrRange},
		{exampleHouse(), openCar, 4, impl.ErrRange},
		{exampleHouse(), openCar, -2, impl.ErrRange},
	}
	for i, r := range far {
		want := impl.IntResult{Code: r.want}
		if got := impl.FarOf(r.house, r.car, r.floor); got != want {
			t.Errorf("far row %d: %+v, not %+v", i, got, want)
		}
	}
}

func (j journey) runFault(c impl.Car, floor, ticks int64) int64 {
	switch fault := j.carFault(c); {
	case fault != impl.OK:
		return fault
	case !j.isFloor(floor), ticks < 0 || ticks > 3000:
		return impl.ErrRange
	case c.Door != 0:
		return impl.ErrForm
	}
	return impl.OK
}

func (j journey) holdsRun(t *testing.T, c impl.Car, floor int64) {
	t.Helper()
	ticks := append(outside(0, 3000), 0, 1, 2, 3000)
	way := trip{}
	if j.runFault(c, floor, 0) == impl.OK {
		way = j.tripOf(c, floor, 3000)
		ticks = append(ticks, around(int64(len(way.cars))-1)...)
	}
	for _, n := range ticks {
		want := impl.RunResult{Code: j.runFault(c, floor, n)}
		if want.Code == impl.OK {
			want = way.run(n)
		}
		if got := impl.RunTo(j.house, c, floor, n); got != want {
			t.Fatalf("RunTo(%+v, %+v, %d, %d) is %+v, not %+v", j.house, c, floor, n, got, want)
		}
	}
}

func TestRunsOfAllEdges(t *testing.T) {
	for _, j := range allJourneys() {
		cars := j.fewCars()
		for i, vel := range j.turnSpeeds() {
			cars = append(cars, impl.Car{Pos: int64(7 * i), Vel: vel})
		}
		for _, c := range cars {
			for _, floor := range j.edgeFloors() {
				j.holdsRun(t, c, floor)
			}
		}
	}
}

// turned is a car as it is in the house that stands on its head.
func turned(h impl.House, c impl.Car) impl.Car {
	return impl.Car{Pos: (h.Floors-1)*h.Gap - c.Pos, Vel: -c.Vel, Door: c.Door}
}

// A house that stands on its head is the same house: what goes up in the one
// goes down in the other, in as many ticks.
func TestDownIsUpTurnedRound(t *testing.T) {
	for _, j := range allJourneys() {
		h := j.house
		for _, pos := range j.edgePlaces() {
			for _, vel := range []int64{-h.Speed, -h.Brake - 1, -1, 0, h.Push, h.Speed} {
				c := impl.Car{Pos: pos, Vel: vel}
				if j.carFault(c) != impl.OK {
					continue
				}
				for floor := int64(-2); floor <= h.Floors+1; floor++ {
					x, y := impl.CommandFor(h, c, floor), impl.CommandFor(h, turned(h, c), h.Floors-1-floor)
					if x.Push != -y.Push || x.Brake != y.Brake || x.Open || y.Open {
						t.Fatalf("CommandFor(%+v, %+v, %d) is %+v, and %+v turned round", h, c, floor, x, y)
					}
				}
				up, down := impl.RunTo(h, c, h.Floors, 300), impl.RunTo(h, turned(h, c), -1, 300)
				if up.Code == impl.OK {
					up.Car = turned(h, up.Car)
				}
				if up != down {
					t.Fatalf("RunTo(%+v, %+v) is %+v up, and %+v down", h, c, up, down)
				}
			}
		}
	}
}

// comesThere follows a car that stands, tick by tick, by what the program
// tells: it is never beyond the floor, and there within the bound.
func comesThere(t *testing.T, h impl.House, pos, floor int64) {
	t.Helper()
	bound, place := impl.RunBound(h).Value, impl.LevelOf(h, floor).Value
	c := impl.Car{Pos: pos}
	low, high := min(pos, place), max(pos, place)
	ticks := int64(0)
	for ; ticks < bound && !impl.ReachedBy(h, c, floor); ticks++ {
		c = impl.StepCar(h, c, impl.CommandFor(h, c, floor), 0).Car
		if c.Pos < low || c.Pos > high {
			t.Fatalf("%+v: from %d to %d it is at %d in the tick %d", h, pos, place, c.Pos, ticks)
		}
	}
	if !impl.ReachedBy(h, c, floor) {
		t.Fatalf("%+v: from %d to %d it does not come in %d ticks", h, pos, place, bound)
	}
	want := impl.RunResult{Ticks: ticks, Car: c}
	if got := impl.RunTo(h, impl.Car{Pos: pos}, floor, min(bound, 3000)); bound <= 3000 && got != want {
		t.Fatalf("%+v: RunTo from %d to %d is %+v, not %+v", h, pos, place, got, want)
	}
}

// Promise 5, in houses of all kinds.
func TestWhoStandsComesToEveryFloor(t *testing.T) {
	for _, h := range append(rightHouses(), heavyHouse()) {
		p := plantOf(h)
		if bound := impl.RunBound(h).Value; bound > impl.MaxTicks {
			t.Fatalf("%+v: the bound %d is above MaxTicks", h, bound)
		}
		for _, pos := range p.edgePlaces() {
			if pos < p.plan.low || pos > p.plan.high {
				continue
			}
			for floor := int64(-1); floor <= h.Floors; floor++ {
				comesThere(t, h, pos, floor)
			}
		}
	}
}

// Promise 5, from every place of small houses, with all that moves a car.
func TestWhoStandsAnywhereComesToEveryFloor(t *testing.T) {
	for _, speed := range []int64{1, 2, 3, 7, 20} {
		for push := int64(1); push <= speed; push += 1 + speed/5 {
			for _, brake := range []int64{push, push + 1, 2*push + 1} {
				for level := range int64(3) {
					h := impl.House{
						Floors: 2, Length: 1, Gap: 1, Refuge: 1, Speed: speed, Push: push,
						Brake: brake, Level: level, Door: 1, Load: 1, Queue: 1,
					}
					h.Gap = impl.ApartOf(h).Value
					h.Refuge = h.Gap + 1
					low, high := impl.LowEnd(h).Value, impl.HighEnd(h).Value
					for pos := low; pos <= high; pos += 1 + speed/7 {
						for floor := int64(-1); floor <= 2; floor++ {
							comesThere(t, h, pos, floor)
						}
					}
				}
			}
		}
	}
}

// Where the bound is above MaxTicks, a run that is not over tells how far it
// came.
func TestRunsThatMaxTicksEnd(t *testing.T) {
	h := crawlHouse()
	if bound := impl.RunBound(h).Value; bound <= impl.MaxTicks {
		t.Fatalf("the bound is %d", bound)
	}
	rows := []struct {
		pos, floor int64
		want       impl.RunResult
	}{
		{0, 1, impl.RunResult{Ticks: 3000, Car: impl.Car{Pos: 3000, Vel: 1}}},
		{0, -1, impl.RunResult{Ticks: 3000, Car: impl.Car{Pos: -3000, Vel: -1}}},
		// Its level begins at 19999: one tick more, and it stands there.
		{17000, 1, impl.RunResult{Ticks: 3000, Car: impl.Car{Pos: 19999}}},
		{16999, 1, impl.RunResult{Ticks: 3000, Car: impl.Car{Pos: 19999, Vel: 1}}},
		{16998, 1, impl.RunResult{Ticks: 3000, Car: impl.Car{Pos: 19998, Vel: 1}}},
		{17001, 1, impl.RunResult{Ticks: 2999, Car: impl.Car{Pos: 19999}}},
	}
	for _, r := range rows {
		if got := impl.RunTo(h, impl.Car{Pos: r.pos}, r.floor, impl.MaxTicks); got != r.want {
			t.Errorf("RunTo from %d: %+v, not %+v", r.pos, got, r.want)
		}
	}
	for floor := int64(-1); floor <= h.Floors; floor++ {
		comesThere(t, h, 17, floor)
	}
}

type profileAnswers struct {
	command impl.Command
	reached bool
	run     impl.RunResult
	far     impl.IntResult
}

func profileAnswersEverywhere() []profileAnswers {
	var list []profileAnswers
	numbers := []int64{least, least + 1, -big1, -51, -2, -1, 0, 1, 3, 50, 3000, 3001, big1, greatest - 1, greatest}
	for _, h := range append(housesOfAllKinds(), crawlHouse()) {
		for _, a := range numbers {
			for _, b := range numbers {
				for _, n := range numbers {
					c := impl.Car{Pos: a, Vel: b, Door: max(0, n)}
					list = append(list, profileAnswers{
						impl.CommandFor(h, c, n), impl.ReachedBy(h, c, n),
						impl.RunTo(h, impl.Car{Pos: a, Vel: b}, n, a), impl.FarOf(h, c, b),
					})
				}
			}
		}
	}
	return list
}

// Every call of chapter 4 answers whatever it is given, and the same again when
// other calls stood between.
func TestProfileAnswersEverywhere(t *testing.T) {
	sameTwice(t, profileAnswersEverywhere)
}
