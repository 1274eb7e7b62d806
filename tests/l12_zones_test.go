package tests

import (
	"fmt"
	"slices"
	"testing"

	"loop.example/g00155/impl"
)

// zoning is what the document tells of zones, worked out the plain way: a mask
// is halved floor by floor, a set is a list of floors, and nothing is shifted.
type zoning struct {
	booking
}

func zoningOf(h impl.House) zoning {
	return zoning{bookingOf(h)}
}

// storeys is the example's house with so many floors.
func storeys(floors int64) impl.House {
	h := exampleHouse()
	h.Floors = floors
	return h
}

func faultyHouses() []impl.House {
	return []impl.House{nearHouse(), outHouse(), {}, storeys(1), storeys(13)}
}

func power(n int64) int64 {
	product := int64(1)
	for range n {
		product += product
	}
	return product
}

func inMask(mask, floor int64) bool {
	for range floor {
		mask /= 2
	}
	return mask%2 == 1
}

// setAt are the floors of a mask that is right, from the lowest on.
func setAt(mask int64) []int64 {
	var list []int64
	for floor := range int64(impl.MaxFloors) {
		if inMask(mask, floor) {
			list = append(list, floor)
		}
	}
	return list
}

// maskAt takes every floor once, however often it stands there.
func maskAt(floors []int64) int64 {
	sum := int64(0)
	for floor := range int64(impl.MaxFloors) {
		if slices.Contains(floors, floor) {
			sum += power(floor)
		}
	}
	return sum
}

func (z zoning) topMask() int64 {
	return power(z.house.Floors) - 1
}

func (z zoning) isMask(mask int64) bool {
	return mask >= 0 && mask <= z.topMask()
}

func (z zoning) mask(floors []int64) impl.MaskResult {
	switch {
	case z.plan.fault != impl.OK:
		return impl.MaskResult{Code: z.plan.fault}
	case len(floors) > 40:
		return impl.MaskResult{Code: impl.ErrMany}
	case slices.ContainsFunc(floors, func(f int64) bool { return !z.hasFloor(f) }):
		return impl.MaskResult{Code: impl.ErrRange}
	}
	return impl.MaskResult{Mask: maskAt(floors)}
}

func (z zoning) floors(mask int64) impl.IntsResult {
	switch {
	case z.plan.fault != impl.OK:
		return impl.IntsResult{Code: z.plan.fault}
	case !z.isMask(mask):
		return impl.IntsResult{Code: impl.ErrRange}
	}
	return impl.IntsResult{List: setAt(mask)}
}

// nearest goes farther and farther away, and looks below ahead of above.
func (z zoning) nearest(mask, floor int64) impl.IntResult {
	switch {
	case z.plan.fault != impl.OK:
		return impl.IntResult{Code: z.plan.fault}
	case !z.isMask(mask) || !z.hasFloor(floor):
		return impl.IntResult{Code: impl.ErrRange}
	}
	for far := range int64(impl.MaxFloors) {
		for _, at := range []int64{floor - far, floor + far} {
			if z.hasFloor(at) && inMask(mask, at) {
				return impl.IntResult{Value: at}
			}
		}
	}
	return impl.IntResult{Code: impl.ErrNone}
}

func (z zoning) zonesFault(zones []int64) int64 {
	switch {
	case z.plan.fault != impl.OK:
		return z.plan.fault
	case len(zones) < 1 || len(zones) > 6:
		return impl.ErrMany
	case slices.ContainsFunc(zones, func(mask int64) bool { return !z.isMask(mask) }):
		return impl.ErrRange
	case slices.Contains(zones, 0):
		return impl.ErrForm
	}
	return impl.OK
}

func (z zoning) served(zones []int64, from, to int64) impl.IntsResult {
	if fault := z.zonesFault(zones); fault != impl.OK {
		return impl.IntsResult{Code: fault}
	}
	if fault := z.callFault(from, to); fault != impl.OK {
		return impl.IntsResult{Code: fault}
	}
	var list []int64
	for place := range int64(len(zones)) {
		if set := setAt(zones[place]); slices.Contains(set, from) && slices.Contains(set, to) {
			list = append(list, place)
		}
	}
	return impl.IntsResult{List: list}
}

// hadBy is the mask of the floors of which rule holds, by how many zones have it.
func (z zoning) hadBy(zones []int64, rule func(count int) bool) impl.MaskResult {
	if fault := z.zonesFault(zones); fault != impl.OK {
		return impl.MaskResult{Code: fault}
	}
	var list []int64
	for floor := range z.house.Floors {
		count := 0
		for _, mask := range zones {
			if inMask(mask, floor) {
				count++
			}
		}
		if rule(count) {
			list = append(list, floor)
		}
	}
	return impl.MaskResult{Mask: maskAt(list)}
}

func (z zoning) cover(zones []int64) impl.MaskResult {
	return z.hadBy(zones, func(count int) bool { return count != 0 })
}

func (z zoning) shared(zones []int64) impl.MaskResult {
	return z.hadBy(zones, func(count int) bool { return count != 0 && count != 1 })
}

func (z zoning) split(cars int64) impl.IntsResult {
	switch {
	case z.plan.fault != impl.OK:
		return impl.IntsResult{Code: z.plan.fault}
	case cars < 1 || cars > 6:
		return impl.IntsResult{Code: impl.ErrRange}
	}
	share := int64(0)
	for share*cars < z.house.Floors-1 {
		share++
	}
	var zones []int64
	for k := range cars {
		set := []int64{0}
		for i := range share {
			if floor := 1 + k*share + i; z.hasFloor(floor) {
				set = append(set, floor)
			}
		}
		if len(set) == 1 {
			set = append(set, z.house.Floors-1)
		}
		zones = append(zones, maskAt(set))
	}
	return impl.IntsResult{List: zones}
}

// middleAt takes a floor from both ends until one is left, or two, of which it
// is the lower.
func middleAt(mask int64) int64 {
	set := setAt(mask)
	for len(set) > 2 {
		set = set[1 : len(set)-1]
	}
	return set[0]
}

func (z zoning) park(zones []int64) impl.IntsResult {
	if fault := z.zonesFault(zones); fault != impl.OK {
		return impl.IntsResult{Code: fault}
	}
	var parked []int64
	for _, mask := range zones {
		at := middleAt(mask)
		for _, wish := range append([]int64{at}, setAt(mask)...) {
			if !slices.Contains(parked, wish) {
				at = wish
				break
			}
		}
		parked = append(parked, at)
	}
	return impl.IntsResult{List: parked}
}

func (z zoning) holdsMask(t *testing.T, mask int64) {
	t.Helper()
	if got, want := impl.FloorsOf(z.house, mask), z.floors(mask); !sameInts(got, want) {
		t.Fatalf("FloorsOf(%+v, %d) is %+v, not %+v", z.house, mask, got, want)
	}
	for floor := int64(-2); floor <= z.house.Floors+1; floor++ {
		z.holdsNearest(t, mask, floor)
	}
}

func (z zoning) holdsNearest(t *testing.T, mask, floor int64) {
	t.Helper()
	if got, want := impl.NearestIn(z.house, mask, floor), z.nearest(mask, floor); got != want {
		t.Fatalf("NearestIn(%+v, %d, %d) is %+v, not %+v", z.house, mask, floor, got, want)
	}
}

func (z zoning) holdsFloors(t *testing.T, floors []int64) {
	t.Helper()
	if got, want := impl.MaskOf(z.house, floors), z.mask(floors); got != want {
		t.Fatalf("MaskOf(%+v, %v) is %+v, not %+v", z.house, floors, got, want)
	}
}

// holdsZones asks of one list all functions but ServedBy.
func (z zoning) holdsZones(t *testing.T, zones []int64) {
	t.Helper()
	if got, want := impl.ZonesFault(z.house, zones), z.zonesFault(zones); got != want {
		t.Fatalf("ZonesFault(%+v, %v) is %d, not %d", z.house, zones, got, want)
	}
	if got, want := impl.CoverZones(z.house, zones), z.cover(zones); got != want {
		t.Fatalf("CoverZones(%+v, %v) is %+v, not %+v", z.house, zones, got, want)
	}
	if got, want := impl.SharedFloors(z.house, zones), z.shared(zones); got != want {
		t.Fatalf("SharedFloors(%+v, %v) is %+v, not %+v", z.house, zones, got, want)
	}
	if got, want := impl.ParkFloors(z.house, zones), z.park(zones); !sameInts(got, want) {
		t.Fatalf("ParkFloors(%+v, %v) is %+v, not %+v", z.house, zones, got, want)
	}
}

func (z zoning) holdsServed(t *testing.T, zones []int64, from, to int64) {
	t.Helper()
	if got, want := impl.ServedBy(z.house, zones, from, to), z.served(zones, from, to); !sameInts(got, want) {
		t.Fatalf("ServedBy(%+v, %v, %d, %d) is %+v, not %+v", z.house, zones, from, to, got, want)
	}
}

// holdsAllServed asks for every way, and for those that leave the house.
func (z zoning) holdsAllServed(t *testing.T, zones []int64) {
	t.Helper()
	for from := int64(-1); from <= z.house.Floors; from++ {
		for to := int64(-1); to <= z.house.Floors; to++ {
			z.holdsServed(t, zones, from, to)
		}
	}
}

func wantMask(t *testing.T, name string, got impl.MaskResult, code, mask int64) {
	t.Helper()
	if want := (impl.MaskResult{Code: code, Mask: mask}); got != want {
		t.Errorf("%s is %+v, not %+v", name, got, want)
	}
}

// refusesZones asks that all that are given zones have that code, and all else
// in their answers is zero.
func refusesZones(t *testing.T, name string, h impl.House, zones []int64, code int64) {
	t.Helper()
	if got := impl.ZonesFault(h, zones); got != code {
		t.Errorf("%s: ZonesFault is %d, not %d", name, got, code)
	}
	wantInts(t, name+": ServedBy", impl.ServedBy(h, zones, 0, 1), code)
	wantInts(t, name+": ParkFloors", impl.ParkFloors(h, zones), code)
	wantMask(t, name+": CoverZones", impl.CoverZones(h, zones), code, 0)
	wantMask(t, name+": SharedFloors", impl.SharedFloors(h, zones), code, 0)
}

// A fault of the house goes ahead of everything, right and wrong.
func TestZonesInHousesWithFaults(t *testing.T) {
	lists := [][]int64{nil, {}, {0}, {1}, {1, 0}, {-1}, {1, 3, 2}, make([]int64, 7), make([]int64, 41), {greatest, least}}
	numbers := []int64{least, -1, 0, 1, 2, 3, 6, 7, 8, greatest}
	for _, h := range faultyHouses() {
		fault := planOf(h).fault
		if fault == impl.OK {
			t.Fatalf("%+v has no fault", h)
		}
		name := fmt.Sprintf("%+v", h)
		for _, list := range lists {
			wantMask(t, name+": MaskOf", impl.MaskOf(h, list), fault, 0)
			refusesZones(t, name, h, list, fault)
			wantInts(t, name+": ServedBy", impl.ServedBy(h, list, 1, 1), fault)
			wantInts(t, name+": ServedBy", impl.ServedBy(h, list, -1, 90), fault)
		}
		for _, a := range numbers {
			wantInts(t, name+": FloorsOf", impl.FloorsOf(h, a), fault)
			wantInts(t, name+": SplitZones", impl.SplitZones(h, a), fault)
			for _, b := range numbers {
				wantIntCode(t, name+": NearestIn", impl.NearestIn(h, a, b), fault)
			}
		}
	}
}

func TestMaskOfByHand(t *testing.T) {
	h := storeys(5)
	rows := []struct {
		name   string
		floors []int64
		code   int64
		mask   int64
	}{
		{"nil", nil, impl.OK, 0},
		{"no floor", []int64{}, impl.OK, 0},
		{"floor 0", []int64{0}, impl.OK, 1},
		{"one floor", []int64{2}, impl.OK, 4},
		{"the highest floor", []int64{4}, impl.OK, 16},
		{"all floors", []int64{0, 1, 2, 3, 4}, impl.OK, 31},
		{"floors that fall", []int64{4, 3, 1}, impl.OK, 26},
		{"floors that do not rise", []int64{2, 0, 4, 1}, impl.OK, 23},
		{"the same floor twice", []int64{3, 3}, impl.OK, 8},
		{"the same floor twice, one between", []int64{3, 0, 3}, impl.OK, 9},
		{"the same floor three times", []int64{1, 1, 1}, impl.OK, 2},
		{"40 floors", slices.Repeat([]int64{4, 2}, 20), impl.OK, 20},
		{"40 times floor 0", make([]int64, 40), impl.OK, 1},
		{"41 floors", append(make([]int64, 40), 2), impl.ErrMany, 0},
		{"41 times floor 0", make([]int64, 41), impl.ErrMany, 0},
		{"many more", make([]int64, 400), impl.ErrMany, 0},
		{"-1 at the first place", []int64{-1, 1, 2}, impl.ErrRange, 0},
		{"-1 in the middle", []int64{0, -1, 2}, impl.ErrRange, 0},
		{"-1 at the last place", []int64{0, 1, -1}, impl.ErrRange, 0},
		{"-1 alone", []int64{-1}, impl.ErrRange, 0},
		{"Floors at the first place", []int64{5, 1, 2}, impl.ErrRange, 0},
		{"Floors in the middle", []int64{0, 5, 2}, impl.ErrRange, 0},
		{"Floors at the last place", []int64{0, 1, 5}, impl.ErrRange, 0},
		{"Floors alone", []int64{5}, impl.ErrRange, 0},
		{"0 at the first place", []int64{0, 1, 2}, impl.OK, 7},
		{"0 in the middle", []int64{1, 0, 2}, impl.OK, 7},
		{"0 at the last place", []int64{1, 2, 0}, impl.OK, 7},
		{"Floors - 1 at the first place", []int64{4, 1, 2}, impl.OK, 22},
		{"Floors - 1 in the middle", []int64{1, 4, 2}, impl.OK, 22},
		{"Floors - 1 at the last place", []int64{1, 2, 4}, impl.OK, 22},
		{"a floor of a higher house", []int64{11}, impl.ErrRange, 0},
		{"floors far out", []int64{greatest, least}, impl.ErrRange, 0},
		{"too many goes ahead of one out of range", append(make([]int64, 40), -1), impl.ErrMany, 0},
		{"too many goes ahead of a first one out of range", append([]int64{5}, make([]int64, 40)...), impl.ErrMany, 0},
		{"40 of which the last is out of range", append(make([]int64, 39), 5), impl.ErrRange, 0},
	}
	for _, r := range rows {
		wantMask(t, r.name, impl.MaskOf(h, r.floors), r.code, r.mask)
	}
}

// Each number at each place of lists of every length, in houses of every height.
func TestMaskOfAtEveryPlace(t *testing.T) {
	d := &dice{state: 31}
	for floors := int64(2); floors <= 12; floors++ {
		z := zoningOf(storeys(floors))
		numbers := append(outside(0, floors-1), 0, 1, floors-1, 12, 63, 64)
		for length := range 43 {
			list := make([]int64, length)
			for i := range list {
				list[i] = d.upTo(0, floors-1)
			}
			z.holdsFloors(t, list)
			for place := range list {
				for _, n := range numbers {
					changed := slices.Clone(list)
					changed[place] = n
					z.holdsFloors(t, changed)
				}
			}
		}
	}
}

func TestFloorsOfByHand(t *testing.T) {
	rows := []struct {
		floors, mask int64
		code         int64
		list         []int64
	}{
		{2, -1, impl.ErrRange, nil},
		{2, 0, impl.OK, nil},
		{2, 1, impl.OK, []int64{0}},
		{2, 2, impl.OK, []int64{1}},
		{2, 3, impl.OK, []int64{0, 1}},
		{2, 4, impl.ErrRange, nil},
		{3, 5, impl.OK, []int64{0, 2}},
		{3, 7, impl.OK, []int64{0, 1, 2}},
		{3, 8, impl.ErrRange, nil},
		{5, 22, impl.OK, []int64{1, 2, 4}},
		{12, -1, impl.ErrRange, nil},
		{12, 0, impl.OK, nil},
		{12, 1, impl.OK, []int64{0}},
		{12, 2048, impl.OK, []int64{11}},
		{12, 2049, impl.OK, []int64{0, 11}},
		{12, 1365, impl.OK, []int64{0, 2, 4, 6, 8, 10}},
		{12, 2730, impl.OK, []int64{1, 3, 5, 7, 9, 11}},
		{12, 4095, impl.OK, []int64{0, 1, 2, 3, 4, 5, 6, 7, 8, 9, 10, 11}},
		{12, 4096, impl.ErrRange, nil},
		{12, 1 << 32, impl.ErrRange, nil},
		{12, 1<<32 + 1, impl.ErrRange, nil},
		{12, least, impl.ErrRange, nil},
		{12, greatest, impl.ErrRange, nil},
	}
	for _, r := range rows {
		name := fmt.Sprintf("FloorsOf %d in a house of %d floors", r.mask, r.floors)
		wantInts(t, name, impl.FloorsOf(storeys(r.floors), r.mask), r.code, r.list...)
	}
}

// Promise 13: masks and floors are the same, both ways, at every mask of every
// house, and from lists in any order with floors that stand there twice.
func TestMasksAndFloorsAreTheSame(t *testing.T) {
	d := &dice{state: 32}
	for floors := int64(2); floors <= 12; floors++ {
		z := zoningOf(storeys(floors))
		for mask := range power(floors) {
			set := impl.FloorsOf(z.house, mask)
			if back := impl.MaskOf(z.house, set.List); set.Code != impl.OK || back != (impl.MaskResult{Mask: mask}) {
				t.Fatalf("%d floors: the floors of %d are %+v, whose mask is %+v", floors, mask, set, back)
			}
			for i, floor := range set.List {
				if !z.hasFloor(floor) || i > 0 && floor <= set.List[i-1] {
					t.Fatalf("%d floors: FloorsOf(%d) does not rise: %v", floors, mask, set.List)
				}
			}
		}
		for range 300 {
			var list []int64
			for range d.upTo(0, 40) {
				list = append(list, d.upTo(0, floors-1))
			}
			rising := slices.Clone(list)
			slices.Sort(rising)
			rising = slices.Compact(rising)
			wantInts(t, fmt.Sprintf("the floors of the mask of %v", list), impl.FloorsOf(z.house, impl.MaskOf(z.house, list).Mask), impl.OK, rising...)
		}
	}
}

func TestMasksOfAllHeights(t *testing.T) {
	for floors := int64(2); floors <= 12; floors++ {
		z := zoningOf(storeys(floors))
		for mask := range power(floors) {
			z.holdsMask(t, mask)
		}
		for _, mask := range append(outside(0, z.topMask()), -z.topMask(), -power(floors), power(floors), power(floors)+1, 2*power(floors), 4095, 4096, 1<<32, 1<<62) {
			z.holdsMask(t, mask)
		}
	}
}

func TestNearestByHand(t *testing.T) {
	h := storeys(8)
	rows := []struct {
		name        string
		mask, floor int64
		code        int64
		nearest     int64
	}{
		{"the floor is in the mask", 1<<1 | 1<<4 | 1<<7, 4, impl.OK, 4},
		{"the lowest one is in the mask", 1 | 1<<1, 0, impl.OK, 0},
		{"the highest one is in the mask", 1<<7 | 1<<6, 7, impl.OK, 7},
		{"two are next to it", 1<<3 | 1<<5, 4, impl.OK, 3},
		{"two are as near, farther away", 1<<1 | 1<<7, 4, impl.OK, 1},
		{"two are as near, with others beyond", 1 | 1<<2 | 1<<6 | 1<<7, 4, impl.OK, 2},
		{"the one above is nearer", 1<<1 | 1<<6, 4, impl.OK, 6},
		{"the one below is nearer", 1<<2 | 1<<7, 4, impl.OK, 2},
		{"floors above alone", 1<<5 | 1<<6 | 1<<7, 2, impl.OK, 5},
		{"floors above alone, from the lowest", 1<<6 | 1<<7, 0, impl.OK, 6},
		{"floors below alone", 1 | 1<<1 | 1<<2, 5, impl.OK, 2},
		{"floors below alone, from the highest", 1 | 1<<1, 7, impl.OK, 1},
		{"the lowest from the highest", 1, 7, impl.OK, 0},
		{"the highest from the lowest", 1 << 7, 0, impl.OK, 7},
		{"the greatest mask", 255, 6, impl.OK, 6},
		{"a mask of 0", 0, 3, impl.ErrNone, 0},
		{"a mask of 0, at the lowest floor", 0, 0, impl.ErrNone, 0},
		{"a mask of 0, at the highest floor", 0, 7, impl.ErrNone, 0},
		{"a mask of -1", -1, 3, impl.ErrRange, 0},
		{"a mask above the greatest", 256, 3, impl.ErrRange, 0},
		{"a mask above the greatest that has the floor", 256 + 8, 3, impl.ErrRange, 0},
		{"a floor of -1", 255, -1, impl.ErrRange, 0},
		{"a floor of Floors", 255, 8, impl.ErrRange, 0},
		{"a floor far below", 255, least, impl.ErrRange, 0},
		{"a floor far above", 255, greatest, impl.ErrRange, 0},
		{"both out of range", -1, 8, impl.ErrRange, 0},
		{"a floor of -1 goes ahead of a mask of 0", 0, -1, impl.ErrRange, 0},
		{"a floor of Floors goes ahead of a mask of 0", 0, 8, impl.ErrRange, 0},
	}
	for _, r := range rows {
		if got, want := impl.NearestIn(h, r.mask, r.floor), (impl.IntResult{Code: r.code, Value: r.nearest}); got != want {
			t.Errorf("%s: %+v, not %+v", r.name, got, want)
		}
	}
}

func TestNearestFarOutOfBounds(t *testing.T) {
	for _, h := range []impl.House{storeys(2), storeys(3), storeys(12)} {
		z := zoningOf(h)
		for _, mask := range append(wideNumbers(), z.topMask(), z.topMask()+1) {
			for _, floor := range append(wideNumbers(), h.Floors-1, h.Floors) {
				z.holdsNearest(t, mask, floor)
			}
		}
	}
}

// The example's house has three floors: 7 is its greatest mask.
func TestZonesFaultByHand(t *testing.T) {
	rows := []struct {
		name  string
		zones []int64
		code  int64
	}{
		{"nil", nil, impl.ErrMany},
		{"no zone", []int64{}, impl.ErrMany},
		{"one zone", []int64{1}, impl.OK},
		{"six zones", []int64{1, 2, 3, 4, 5, 6}, impl.OK},
		{"the same zone six times", []int64{7, 7, 7, 7, 7, 7}, impl.OK},
		{"seven zones", []int64{1, 2, 3, 4, 5, 6, 7}, impl.ErrMany},
		{"many more", slices.Repeat([]int64{1}, 100), impl.ErrMany},
		{"-1 alone", []int64{-1}, impl.ErrRange},
		{"-1 at the first place", []int64{-1, 1, 2}, impl.ErrRange},
		{"-1 in the middle", []int64{1, -1, 2}, impl.ErrRange},
		{"-1 at the last place", []int64{1, 2, -1}, impl.ErrRange},
		{"-1 at the last of six", []int64{1, 2, 3, 4, 5, -1}, impl.ErrRange},
		{"0 alone", []int64{0}, impl.ErrForm},
		{"0 at the first place", []int64{0, 1, 2}, impl.ErrForm},
		{"0 in the middle", []int64{1, 0, 2}, impl.ErrForm},
		{"0 at the last place", []int64{1, 2, 0}, impl.ErrForm},
		{"0 at the last of six", []int64{1, 2, 3, 4, 5, 0}, impl.ErrForm},
		{"all 0", []int64{0, 0, 0}, impl.ErrForm},
		{"the greatest mask alone", []int64{7}, impl.OK},
		{"the greatest mask at the first place", []int64{7, 1, 2}, impl.OK},
		{"the greatest mask in the middle", []int64{1, 7, 2}, impl.OK},
		{"the greatest mask at the last place", []int64{1, 2, 7}, impl.OK},
		{"one above alone", []int64{8}, impl.ErrRange},
		{"one above at the first place", []int64{8, 1, 2}, impl.ErrRange},
		{"one above in the middle", []int64{1, 8, 2}, impl.ErrRange},
		{"one above at the last place", []int64{1, 2, 8}, impl.ErrRange},
		{"far below", []int64{least}, impl.ErrRange},
		{"far above", []int64{greatest}, impl.ErrRange},
		{"0 ahead of one that is not right", []int64{0, 8}, impl.ErrRange},
		{"0 behind one that is not right", []int64{8, 0}, impl.ErrRange},
		{"0 ahead of -1", []int64{0, 1, -1}, impl.ErrRange},
		{"0 behind -1", []int64{-1, 1, 0}, impl.ErrRange},
		{"0 first and -1 last of six", []int64{0, 1, 2, 3, 4, -1}, impl.ErrRange},
		{"seven, one not right", []int64{1, 2, 3, 4, 5, 6, 8}, impl.ErrMany},
		{"seven, the first not right", []int64{-1, 2, 3, 4, 5, 6, 7}, impl.ErrMany},
		{"seven, one 0", []int64{0, 2, 3, 4, 5, 6, 7}, impl.ErrMany},
		{"seven, all 0", make([]int64, 7), impl.ErrMany},
	}
	for _, r := range rows {
		if r.code != impl.OK {
			refusesZones(t, r.name, exampleHouse(), r.zones, r.code)
		} else if got := impl.ZonesFault(exampleHouse(), r.zones); got != impl.OK {
			t.Errorf("%s: ZonesFault is %d", r.name, got)
		}
	}
}

// Up to seven zones, of which one or two are at the edges of a mask or beyond.
func TestZonesAtEveryPlace(t *testing.T) {
	for floors := int64(2); floors <= 12; floors++ {
		z := zoningOf(storeys(floors))
		masks := append(outside(0, z.topMask()), 0, 1, z.topMask())
		for count := range 8 {
			zones := slices.Repeat([]int64{z.topMask()}, count)
			z.holdsZones(t, zones)
			for i := range zones {
				for _, a := range masks {
					changed := slices.Clone(zones)
					changed[i] = a
					z.holdsZones(t, changed)
					for j := range zones {
						for _, b := range masks {
							twice := slices.Clone(changed)
							twice[j] = b
							z.holdsZones(t, twice)
						}
					}
				}
			}
		}
	}
}

func TestServedByHand(t *testing.T) {
	h := storeys(4)
	const from, to, others = 1 << 1, 1 << 3, 1<<0 | 1<<2
	rows := []struct {
		name  string
		zones []int64
		want  []int64
	}{
		{"from alone", []int64{from}, nil},
		{"to alone", []int64{to}, nil},
		{"both", []int64{from | to}, []int64{0}},
		{"neither", []int64{others}, nil},
		{"from with others", []int64{from | others}, nil},
		{"to with others", []int64{to | others}, nil},
		{"all floors", []int64{from | to | others}, []int64{0}},
		{"from in one, to in another", []int64{from | others, to | others}, nil},
		{"none of six", []int64{from, to, others, from | others, to | others, from}, nil},
		{"one of each kind", []int64{from, to, from | to, others}, []int64{2}},
		{"the first and the last", []int64{15, from, others, to, from | to}, []int64{0, 4}},
		{"the same zone twice", []int64{from | to, from | to}, []int64{0, 1}},
		{"all of six", []int64{15, 10, 11, 14, 15, 10}, []int64{0, 1, 2, 3, 4, 5}},
	}
	for _, r := range rows {
		wantInts(t, r.name, impl.ServedBy(h, r.zones, 1, 3), impl.OK, r.want...)
		wantInts(t, r.name+", turned round", impl.ServedBy(h, r.zones, 3, 1), impl.OK, r.want...)
	}
	wantInts(t, "floor 0", impl.ServedBy(h, []int64{1, 3, 9, 14}, 0, 3), impl.OK, 2)
}

func TestServedByAsksInOrder(t *testing.T) {
	h := storeys(4)
	calls := []struct {
		name           string
		from, to, code int64
	}{
		{"from of -1", -1, 2, impl.ErrRange},
		{"from of Floors", 4, 2, impl.ErrRange},
		{"to of -1", 2, -1, impl.ErrRange},
		{"to of Floors", 2, 4, impl.ErrRange},
		{"from far below", least, 2, impl.ErrRange},
		{"to far above", 2, greatest, impl.ErrRange},
		{"both out of range and the same", 4, 4, impl.ErrRange},
		{"both far out and the same", least, least, impl.ErrRange},
		{"the lowest floor twice", 0, 0, impl.ErrForm},
		{"the same floor", 2, 2, impl.ErrForm},
		{"the highest floor twice", 3, 3, impl.ErrForm},
	}
	faults := []struct {
		name  string
		zones []int64
		code  int64
	}{
		{"no zones", nil, impl.ErrMany},
		{"seven zones", []int64{1, 1, 1, 1, 1, 1, 1}, impl.ErrMany},
		{"a zone that is not right", []int64{15, 16}, impl.ErrRange},
		{"a zone of -1", []int64{-1, 15}, impl.ErrRange},
		{"a zone of 0", []int64{15, 0}, impl.ErrForm},
	}
	for _, c := range calls {
		for _, zones := range [][]int64{{15}, {1, 2, 4, 8}, {4}} {
			wantInts(t, c.name, impl.ServedBy(h, zones, c.from, c.to), c.code)
		}
		for _, f := range faults {
			wantInts(t, f.name+" goes ahead of "+c.name, impl.ServedBy(h, f.zones, c.from, c.to), f.code)
		}
	}
	for _, f := range faults {
		wantInts(t, f.name, impl.ServedBy(h, f.zones, 0, 2), f.code)
	}
}

func TestCoverAndSharedByHand(t *testing.T) {
	h := storeys(6)
	rows := []struct {
		name          string
		zones         []int64
		cover, shared int64
	}{
		{"one zone", []int64{0b010110}, 0b010110, 0},
		{"one zone of one floor", []int64{0b100000}, 0b100000, 0},
		{"one zone of all floors", []int64{0b111111}, 0b111111, 0},
		{"no floor in common", []int64{0b000011, 0b001100}, 0b001111, 0},
		{"none in common, all floors", []int64{0b000001, 0b000010, 0b000100, 0b001000, 0b010000, 0b100000}, 0b111111, 0},
		{"a floor that two have", []int64{0b000011, 0b000110}, 0b000111, 0b000010},
		{"a floor that two of three have, not side by side", []int64{0b001001, 0b000110, 0b101000}, 0b101111, 0b001000},
		{"a floor that three have", []int64{0b000111, 0b001100, 0b010100, 0b100000}, 0b111111, 0b000100},
		{"a floor that all have", []int64{0b000011, 0b000101, 0b001001, 0b010001, 0b100001, 0b000001}, 0b111111, 0b000001},
		{"one that two have, one that three have", []int64{0b000011, 0b000110, 0b000010, 0b000100}, 0b000111, 0b000110},
		{"the same zone twice", []int64{0b010100, 0b010100}, 0b010100, 0b010100},
		{"the same zone twice, another between", []int64{0b010100, 0b001000, 0b010100}, 0b011100, 0b010100},
		{"the same zone six times", slices.Repeat([]int64{0b100010}, 6), 0b100010, 0b100010},
		{"a zone within another", []int64{0b111000, 0b010000}, 0b111000, 0b010000},
	}
	for _, r := range rows {
		for range len(r.zones) {
			wantMask(t, fmt.Sprintf("%s: CoverZones %06b", r.name, r.zones), impl.CoverZones(h, r.zones), impl.OK, r.cover)
			wantMask(t, fmt.Sprintf("%s: SharedFloors %06b", r.name, r.zones), impl.SharedFloors(h, r.zones), impl.OK, r.shared)
			r.zones = append(r.zones[1:], r.zones[0])
		}
	}
}

func TestSplitByHand(t *testing.T) {
	rows := []struct {
		name         string
		floors, cars int64
		code         int64
		want         []int64
	}{
		{"the example", 3, 2, impl.OK, []int64{3, 5}},
		{"no cars", 3, 0, impl.ErrRange, nil},
		{"below 0", 3, -1, impl.ErrRange, nil},
		{"far below", 3, least, impl.ErrRange, nil},
		{"seven cars", 12, 7, impl.ErrRange, nil},
		{"seven cars, eight floors", 8, 7, impl.ErrRange, nil},
		{"far above", 12, greatest, impl.ErrRange, nil},
		{"one car, two floors", 2, 1, impl.OK, []int64{0b11}},
		{"one car", 5, 1, impl.OK, []int64{0b11111}},
		{"one car, twelve floors", 12, 1, impl.OK, []int64{4095}},
		{"it comes out even", 7, 3, impl.OK, []int64{0b0000111, 0b0011001, 0b1100001}},
		{"a floor for each", 7, 6, impl.OK, []int64{0b0000011, 0b0000101, 0b0001001, 0b0010001, 0b0100001, 0b1000001}},
		{"the last has fewer", 6, 2, impl.OK, []int64{0b001111, 0b110001}},
		{"the last has one", 8, 3, impl.OK, []int64{0b00001111, 0b01110001, 0b10000001}},
		{"the last would have none", 5, 3, impl.OK, []int64{0b00111, 0b11001, 0b10001}},
		{"two would have none", 8, 6, impl.OK, []int64{0b00000111, 0b00011001, 0b01100001, 0b10000001, 0b10000001, 0b10000001}},
		{"twelve floors, two cars", 12, 2, impl.OK, []int64{0b000001111111, 0b111110000001}},
		{"twelve floors, five cars", 12, 5, impl.OK, []int64{0b000000001111, 0b000001110001, 0b001110000001, 0b110000000001, 0b100000000001}},
		{"twelve floors, six cars", 12, 6, impl.OK, []int64{0b000000000111, 0b000000011001, 0b000001100001, 0b000110000001, 0b011000000001, 0b100000000001}},
		{"more cars than floors above the lowest", 3, 5, impl.OK, []int64{3, 5, 5, 5, 5}},
		{"one floor above the lowest, two cars", 2, 2, impl.OK, []int64{3, 3}},
		{"one floor above the lowest, six cars", 2, 6, impl.OK, []int64{3, 3, 3, 3, 3, 3}},
	}
	for _, r := range rows {
		wantInts(t, r.name, impl.SplitZones(storeys(r.floors), r.cars), r.code, r.want...)
	}
}

// Promise 13: zones that are split serve every floor, and each car waits in its
// own; for every number of floors and of cars.
func TestSplitZonesServeEveryFloor(t *testing.T) {
	d := &dice{state: 33}
	var houses []impl.House
	for floors := int64(2); floors <= 12; floors++ {
		houses = append(houses, storeys(floors))
	}
	for range 100 {
		houses = append(houses, d.house())
	}
	for _, h := range append(houses, rightHouses()...) {
		z := zoningOf(h)
		for cars := int64(-2); cars <= 9; cars++ {
			split := impl.SplitZones(h, cars)
			if want := z.split(cars); !sameInts(split, want) {
				t.Fatalf("SplitZones(%+v, %d) is %+v, not %+v", h, cars, split, want)
			}
			if split.Code == impl.OK {
				servesEveryFloor(t, h, split.List)
				z.holdsZones(t, split.List)
				z.holdsAllServed(t, split.List)
			}
		}
	}
}

func servesEveryFloor(t *testing.T, h impl.House, zones []int64) {
	t.Helper()
	if fault := impl.ZonesFault(h, zones); fault != impl.OK {
		t.Fatalf("%+v: the zones %v have the fault %d", h, zones, fault)
	}
	wantMask(t, fmt.Sprintf("what %v cover", zones), impl.CoverZones(h, zones), impl.OK, power(h.Floors)-1)
	for floor := int64(1); floor < h.Floors; floor++ {
		if up := impl.ServedBy(h, zones, 0, floor); up.Code != impl.OK || len(up.List) == 0 {
			t.Fatalf("%+v: nobody of %v goes from 0 to %d: %+v", h, zones, floor, up)
		}
		if down := impl.ServedBy(h, zones, floor, 0); down.Code != impl.OK || len(down.List) == 0 {
			t.Fatalf("%+v: nobody of %v goes from %d to 0: %+v", h, zones, floor, down)
		}
	}
	for k, zone := range zones {
		if !inMask(zone, 0) || zone == 1 {
			t.Fatalf("%+v: the zone %d of %v", h, k, zones)
		}
	}
	waitInTheirOwn(t, h, zones)
}

// waitInTheirOwn asks that two wait at one floor only where one of them has no
// other left.
func waitInTheirOwn(t *testing.T, h impl.House, zones []int64) {
	t.Helper()
	park := impl.ParkFloors(h, zones)
	if park.Code != impl.OK || len(park.List) != len(zones) {
		t.Fatalf("%+v: ParkFloors of %v is %+v", h, zones, park)
	}
	for k, floor := range park.List {
		if floor < 0 || floor >= h.Floors || !inMask(zones[k], floor) {
			t.Fatalf("%+v: car %d of %v waits at %d", h, k, zones, floor)
		}
		for _, own := range setAt(zones[k]) {
			if slices.Contains(park.List[:k], floor) && !slices.Contains(park.List[:k], own) {
				t.Fatalf("%+v: car %d of %v waits at %d, though %d is free: %v", h, k, zones, floor, own, park.List)
			}
		}
	}
}

func TestParkByHand(t *testing.T) {
	h := storeys(7)
	rows := []struct {
		name  string
		zones []int64
		want  []int64
	}{
		{"one floor", []int64{0b0010000}, []int64{4}},
		{"the lowest floor", []int64{0b0000001}, []int64{0}},
		{"the highest floor", []int64{0b1000000}, []int64{6}},
		{"two floors", []int64{0b0100100}, []int64{2}},
		{"two floors side by side", []int64{0b1100000}, []int64{5}},
		{"three floors", []int64{0b1000110}, []int64{2}},
		{"three floors, far apart", []int64{0b1100001}, []int64{5}},
		{"four floors", []int64{0b1101001}, []int64{3}},
		{"five floors", []int64{0b1110011}, []int64{4}},
		{"six floors", []int64{0b1111101}, []int64{3}},
		{"all seven floors", []int64{0b1111111}, []int64{3}},
		{"the same zone twice", []int64{0b1000110, 0b1000110}, []int64{2, 1}},
		{"the same zone three times", []int64{0b1000110, 0b1000110, 0b1000110}, []int64{2, 1, 6}},
		{"the same zone once more than it has floors", []int64{0b1000110, 0b1000110, 0b1000110, 0b1000110}, []int64{2, 1, 6, 2}},
		{"twice more", []int64{0b1000110, 0b1000110, 0b1000110, 0b1000110, 0b1000110}, []int64{2, 1, 6, 2, 2}},
		{"one floor six times", slices.Repeat([]int64{0b0001000}, 6), []int64{3, 3, 3, 3, 3, 3}},
		{"two floors four times", slices.Repeat([]int64{0b0001010}, 4), []int64{1, 3, 1, 1}},
		{"all floors six times", slices.Repeat([]int64{0b1111111}, 6), []int64{3, 0, 1, 2, 4, 5}},
		{"the middle one is taken", []int64{0b0001000, 0b1001100}, []int64{3, 2}},
		{"the middle and the lowest are taken", []int64{0b0001000, 0b0000100, 0b1001100}, []int64{3, 2, 6}},
		{"the middle and the lowest are taken, the other way round", []int64{0b0000100, 0b0001000, 0b1001100}, []int64{2, 3, 6}},
		{"the lowest is taken, the middle one is not", []int64{0b0000100, 0b1001100}, []int64{2, 3}},
		{"all of its floors but the highest are taken", []int64{1, 2, 4, 8, 16, 0b0111111}, []int64{0, 1, 2, 3, 4, 5}},
		{"all are taken", []int64{1, 2, 4, 0b0000111}, []int64{0, 1, 2, 1}},
		{"taken by one that had to give way", []int64{0b0000010, 0b0000011, 0b0000001}, []int64{1, 0, 0}},
		{"one behind does not count", []int64{0b0000111, 0b0000010}, []int64{1, 1}},
		{"taken by the last one ahead alone", []int64{0b1000000, 0b0100000, 0b0000010, 0b0000111}, []int64{6, 5, 1, 0}},
		{"nothing in common", []int64{0b0000011, 0b0001100, 0b1110000}, []int64{0, 2, 5}},
	}
	for _, r := range rows {
		wantInts(t, r.name, impl.ParkFloors(h, r.zones), impl.OK, r.want...)
	}
}

func TestParkOfSplitZonesByHand(t *testing.T) {
	rows := []struct {
		floors, cars int64
		want         []int64
	}{
		{2, 1, []int64{0}},
		{2, 2, []int64{0, 1}},
		{2, 6, []int64{0, 1, 0, 0, 0, 0}},
		{3, 2, []int64{0, 2}},
		{3, 5, []int64{0, 2, 0, 0, 0}},
		{5, 2, []int64{1, 3}},
		{5, 3, []int64{1, 3, 0}},
		{7, 6, []int64{0, 2, 3, 4, 5, 6}},
		{8, 6, []int64{1, 3, 5, 0, 7, 0}},
		{12, 1, []int64{5}},
		{12, 2, []int64{3, 8}},
		{12, 6, []int64{1, 3, 5, 7, 9, 0}},
	}
	for _, r := range rows {
		h := storeys(r.floors)
		wantInts(t, fmt.Sprintf("%d floors, %d cars", r.floors, r.cars), impl.ParkFloors(h, impl.SplitZones(h, r.cars).List), impl.OK, r.want...)
	}
}

// listsOf are all lists of one length of these numbers.
func listsOf(length int, numbers []int64) [][]int64 {
	if length == 0 {
		return [][]int64{nil}
	}
	var lists [][]int64
	for _, list := range listsOf(length-1, numbers) {
		for _, n := range numbers {
			lists = append(lists, append(slices.Clone(list), n))
		}
	}
	return lists
}

func upFrom(low, high int64) []int64 {
	var list []int64
	for n := low; n <= high; n++ {
		list = append(list, n)
	}
	return list
}

func TestAllZonesOfSmallHouses(t *testing.T) {
	for _, r := range []struct{ floors, longest int64 }{{2, 5}, {3, 4}, {4, 3}} {
		z := zoningOf(storeys(r.floors))
		for length := range r.longest + 1 {
			for _, zones := range listsOf(int(length), upFrom(-1, z.topMask()+1)) {
				z.holdsZones(t, zones)
				if z.zonesFault(zones) == impl.OK {
					waitInTheirOwn(t, z.house, zones)
				}
				if length <= 2 {
					z.holdsAllServed(t, zones)
				}
			}
		}
	}
}

// zones are masks of a house: few or many floors, at times one ahead once more.
func (d *dice) zones(h impl.House) []int64 {
	var zones []int64
	for i := range d.upTo(1, 6) {
		mask := d.upTo(1, power(h.Floors)-1)
		switch d.upTo(0, 4) {
		case 0:
			mask = power(d.upTo(0, h.Floors-1))
		case 1:
			mask = maskAt([]int64{d.upTo(0, h.Floors-1), d.upTo(0, h.Floors-1), d.upTo(0, h.Floors-1)})
		case 2:
			if i > 0 {
				mask = zones[d.upTo(0, i-1)]
			}
		}
		zones = append(zones, mask)
	}
	return zones
}

func TestZonesOfAllKinds(t *testing.T) {
	d := &dice{state: 34}
	for range 12000 {
		z := zoningOf(storeys(d.upTo(2, 12)))
		zones := d.zones(z.house)
		z.holdsZones(t, zones)
		waitInTheirOwn(t, z.house, zones)
		z.holdsServed(t, zones, d.upTo(0, z.house.Floors-1), d.upTo(0, z.house.Floors-1))
		z.holdsServed(t, zones, d.upTo(-1, z.house.Floors), d.upTo(-1, z.house.Floors))
		for range d.upTo(0, 2) {
			numbers := append(outside(0, z.topMask()), 0)
			zones[d.upTo(0, int64(len(zones))-1)] = numbers[d.upTo(0, 8)]
			z.holdsZones(t, zones)
			z.holdsServed(t, zones, d.upTo(-1, z.house.Floors), d.upTo(-1, z.house.Floors))
		}
	}
}

// A floor that some zone has is one that a car stops at, and one that two have
// is had by some.
func TestCoverIsWhatServes(t *testing.T) {
	d := &dice{state: 35}
	for range 3000 {
		h := d.house()
		zones := d.zones(h)
		cover, shared := impl.CoverZones(h, zones).Mask, impl.SharedFloors(h, zones).Mask
		if cover|shared != cover {
			t.Fatalf("%v cover %b, and share %b", zones, cover, shared)
		}
		for k, zone := range zones {
			if cover|zone != cover {
				t.Fatalf("%v cover %b, but have %b", zones, cover, zone)
			}
			others := slices.Concat(zones[:k], zones[k+1:])
			if len(others) > 0 && impl.CoverZones(h, others).Mask&zone&^shared != 0 {
				t.Fatalf("%v share %b, but not what %b has, too", zones, shared, zone)
			}
		}
	}
}

type listCall struct {
	name string
	call func(impl.House, []int64) impl.IntsResult
}

// listCalls are all that are given a list; what is no list is told as one.
func listCalls() []listCall {
	told := func(r impl.MaskResult) impl.IntsResult { return impl.IntsResult{Code: r.Code, List: []int64{r.Mask}} }
	return []listCall{
		{"MaskOf", func(h impl.House, list []int64) impl.IntsResult { return told(impl.MaskOf(h, list)) }},
		{"ZonesFault", func(h impl.House, list []int64) impl.IntsResult {
			return impl.IntsResult{Code: impl.ZonesFault(h, list)}
		}},
		{"ServedBy", func(h impl.House, list []int64) impl.IntsResult { return impl.ServedBy(h, list, 0, 1) }},
		{"ParkFloors", impl.ParkFloors},
		{"CoverZones", func(h impl.House, list []int64) impl.IntsResult { return told(impl.CoverZones(h, list)) }},
		{"SharedFloors", func(h impl.House, list []int64) impl.IntsResult { return told(impl.SharedFloors(h, list)) }},
	}
}

// Lists with room behind them, which an append would fill: none is changed, and
// what they become afterwards leaves the answers as they were.
func TestZonesShareNoMemory(t *testing.T) {
	lists := [][]int64{
		nil, {0}, {3}, {7, 3}, {5, 1, 3, 3}, {3, 3, 3, 3, 3, 3}, {7, 6, 5, 4, 3, 2}, {2, 1, 0}, {0, 1, 2}, {2, 2, 1, 1},
		{0, 1, 2, 0, 1, 2, 1}, {-1, 8}, slices.Repeat([]int64{2, 0}, 20), make([]int64, 41),
	}
	for _, f := range listCalls() {
		for _, h := range []impl.House{exampleHouse(), storeys(12), nearHouse()} {
			for _, list := range lists {
				given := roomy(list)
				all := given[:cap(given)]
				before := slices.Clone(all)
				first, second := f.call(h, given), f.call(h, given)
				kept := slices.Clone(second.List)
				if !slices.Equal(all, before) {
					t.Errorf("%s changes its argument %v", f.name, list)
				}
				spoilInts(first.List)
				if !slices.Equal(all, before) || !slices.Equal(second.List, kept) {
					t.Errorf("%s of %v: its answer is its argument's memory, or another answer's", f.name, list)
				}
				spoilInts(all)
				if first.Code != second.Code || !slices.Equal(second.List, kept) || !sameInts(f.call(h, list), second) {
					t.Errorf("%s of %v: its answer shares memory: %v, then %v", f.name, list, kept, second.List)
				}
			}
		}
	}
}

func TestFloorsAndSplitsShareNoMemory(t *testing.T) {
	for floors := int64(2); floors <= 12; floors++ {
		h := storeys(floors)
		for n := range int64(8) {
			for i, list := range []func() impl.IntsResult{
				func() impl.IntsResult { return impl.FloorsOf(h, n) },
				func() impl.IntsResult { return impl.FloorsOf(h, power(floors)-1-n) },
				func() impl.IntsResult { return impl.SplitZones(h, n) },
			} {
				first, second := list(), list()
				kept := slices.Clone(second.List)
				spoilInts(first.List)
				if !slices.Equal(second.List, kept) || !slices.Equal(list().List, kept) {
					t.Errorf("list %d of %d in a house of %d floors: %v, then %v", i, n, floors, kept, second.List)
				}
			}
		}
	}
}

func TestNoFloorsAndNoZones(t *testing.T) {
	full := []int64{1, 2, 3}
	for _, f := range listCalls() {
		for _, h := range append(rightHouses(), faultyHouses()...) {
			for _, empty := range [][]int64{{}, make([]int64, 0, 9), full[:0]} {
				if a, b := f.call(h, nil), f.call(h, empty); !sameInts(a, b) {
					t.Errorf("%s of nil is %+v, of an empty list %+v", f.name, a, b)
				}
			}
		}
	}
}

// zonesAnswersEverywhere tells answers as texts, since lists are not compared.
func zonesAnswersEverywhere() []string {
	var list []string
	numbers := []int64{least, -big1, -1, 0, 1, 2, 3, 5, 6, 7, 11, 12, 31, 32, 63, 64, 4095, 4096, 1 << 32, big1, greatest}
	for _, h := range housesOfAllKinds() {
		for _, a := range numbers {
			for i, b := range numbers {
				given := slices.Repeat([]int64{a, b}, i)[:i]
				list = append(list, fmt.Sprint(
					impl.MaskOf(h, given), impl.MaskOf(h, []int64{b}), impl.FloorsOf(h, a), impl.NearestIn(h, a, b),
					impl.ZonesFault(h, given), impl.ServedBy(h, given, a, b), impl.ServedBy(h, []int64{3, 1, 2}, a, b),
					impl.SplitZones(h, a), impl.ParkFloors(h, given), impl.ParkFloors(h, []int64{a, b, a}),
					impl.CoverZones(h, given), impl.CoverZones(h, []int64{a, b}), impl.SharedFloors(h, given), impl.SharedFloors(h, []int64{b, a, 1})))
			}
		}
	}
	return list
}

// Every call of chapter 12 answers whatever it is given, and the same again when
// other calls stood between.
func TestZonesAnswerEverywhere(t *testing.T) {
	sameTwice(t, zonesAnswersEverywhere)
}
