package tests

import (
	"fmt"
	"math/big"
	"slices"
	"strings"
	"testing"

	"loop.example/g00155/impl"
)

// The edges of a wheel, of half of one, and of the numbers of a reading.
const (
	lastCount = 65535
	wheel     = 65536
	halfWheel = 32768
	leastPos  = -524288
	mostPos   = 524287
	leastVel  = -512
	mostVel   = 511
	words     = 1 << 32
)

// What the document tells of sensors, worked out the plain way: bits are digits
// of a text or what is left of halving, and numbers are never masked.

func plainGray(n int64) impl.IntResult {
	if n < 0 || n > lastCount {
		return impl.IntResult{Code: impl.ErrRange}
	}
	digits, gray := fmt.Sprintf("0%016b", n), int64(0)
	for i := 1; i < len(digits); i++ {
		gray *= 2
		if digits[i] != digits[i-1] {
			gray++
		}
	}
	return impl.IntResult{Value: gray}
}

func plainBits(w int64) int64 {
	n := big.NewInt(w)
	if w < 0 {
		n.Add(n, new(big.Int).Lsh(big.NewInt(1), 64))
	}
	return int64(strings.Count(n.Text(2), "1"))
}

func plainDelta(old, now int64) impl.IntResult {
	for _, n := range []int64{old, now} {
		if n < 0 || n > lastCount {
			return impl.IntResult{Code: impl.ErrRange}
		}
	}
	for _, turn := range []int64{now - old, now - old + wheel, now - old - wheel} {
		if -halfWheel <= turn && turn < halfWheel {
			return impl.IntResult{Value: turn}
		}
	}
	panic("no turn is the shorter one")
}

func plainPath(counts []int64, scale int64) impl.IntResult {
	switch {
	case len(counts) > 60:
		return impl.IntResult{Code: impl.ErrMany}
	case scale < 1 || scale > 1000:
		return impl.IntResult{Code: impl.ErrRange}
	}
	path := int64(0)
	for i, now := range counts {
		if now < 0 || now > lastCount {
			return impl.IntResult{Code: impl.ErrRange}
		}
		if i > 0 && counts[i-1] >= 0 && counts[i-1] <= lastCount {
			path += scale * plainDelta(counts[i-1], now).Value
		}
	}
	return impl.IntResult{Value: path}
}

// plainVote takes each of the three that has one of the others on its one side
// and one on the other: where several do, they are the same.
func plainVote(a, b, c, most int64) impl.IntResult {
	for _, n := range []int64{a, b, c} {
		if n < -1e15 || n > 1e15 {
			return impl.IntResult{Code: impl.ErrRange}
		}
	}
	if most < 0 || most > 1e15 {
		return impl.IntResult{Code: impl.ErrRange}
	}
	if sizeOf(a-b) > most && sizeOf(a-c) > most && sizeOf(b-c) > most {
		return impl.IntResult{Code: impl.ErrForm}
	}
	for _, turn := range [][3]int64{{a, b, c}, {b, c, a}, {c, a, b}} {
		if one, mid, other := turn[0], turn[1], turn[2]; one <= mid && mid <= other || other <= mid && mid <= one {
			return impl.IntResult{Value: mid}
		}
	}
	panic("none of three is in the middle")
}

// modulo is the number from 0 to size - 1 that stands for n.
func modulo(n, size int64) int64 {
	return (n%size + size) % size
}

func ones(n int64) int64 {
	count := int64(0)
	for ; n > 0; n /= 2 {
		count += n % 2
	}
	return count
}

func plainPacked(r impl.Reading) impl.IntResult {
	if r.Pos < leastPos || r.Pos > mostPos || r.Vel < leastVel || r.Vel > mostVel {
		return impl.IntResult{Code: impl.ErrRange}
	}
	pos, vel := modulo(r.Pos, 1048576), modulo(r.Vel, 1024)
	return impl.IntResult{Value: pos*4096 + vel*4 + (ones(pos)+ones(vel))%4}
}

func plainUnpacked(w int64) impl.ReadingResult {
	if w < 0 || w >= words {
		return impl.ReadingResult{Code: impl.ErrRange}
	}
	r := impl.Reading{Pos: w / 4096, Vel: w / 4 % 1024}
	if r.Pos > mostPos {
		r.Pos -= 1048576
	}
	if r.Vel > mostVel {
		r.Vel -= 1024
	}
	if plainPacked(r).Value != w {
		return impl.ReadingResult{Code: impl.ErrForm}
	}
	return impl.ReadingResult{Reading: r}
}

func plainSense(h impl.House, lower, upper []int64, most int64) impl.ShaftResult {
	p, votes := plantOf(h), [2]int64{}
	switch {
	case p.plan.fault != impl.OK:
		return impl.ShaftResult{Code: p.plan.fault}
	case len(lower) != 3 || len(upper) != 3:
		return impl.ShaftResult{Code: impl.ErrMany}
	}
	for i, told := range [][]int64{lower, upper} {
		vote := plainVote(told[0], told[1], told[2], most)
		if vote.Code != impl.OK {
			return impl.ShaftResult{Code: vote.Code}
		}
		votes[i] = vote.Value
	}
	s := impl.Shaft{Lower: standing(votes[0]), Upper: standing(votes[1])}
	if fault := p.shaftFault(s); fault != impl.OK {
		return impl.ShaftResult{Code: fault}
	}
	return impl.ShaftResult{Shaft: s}
}

func wantIntCode(t *testing.T, name string, got impl.IntResult, code int64) {
	t.Helper()
	if want := (impl.IntResult{Code: code}); got != want {
		t.Errorf("%s: %+v, not %+v", name, got, want)
	}
}

func holdsPath(t *testing.T, counts []int64, scale int64) {
	t.Helper()
	if got, want := impl.PathOf(counts, scale), plainPath(counts, scale); got != want {
		t.Fatalf("PathOf(%v, %d) is %+v, not %+v", counts, scale, got, want)
	}
}

func holdsVote(t *testing.T, a, b, c, most int64) {
	t.Helper()
	if got, want := impl.VoteThree(a, b, c, most), plainVote(a, b, c, most); got != want {
		t.Fatalf("VoteThree(%d, %d, %d, %d) is %+v, not %+v", a, b, c, most, got, want)
	}
}

func holdsPacked(t *testing.T, r impl.Reading) {
	t.Helper()
	if got, want := impl.PackReading(r), plainPacked(r); got != want {
		t.Fatalf("PackReading(%+v) is %+v, not %+v", r, got, want)
	}
}

func holdsUnpacked(t *testing.T, w int64) {
	t.Helper()
	if got, want := impl.UnpackReading(w), plainUnpacked(w); got != want {
		t.Fatalf("UnpackReading(%d) is %+v, not %+v", w, got, want)
	}
}

func holdsSense(t *testing.T, h impl.House, lower, upper []int64, most int64) {
	t.Helper()
	if got, want := impl.SenseShaft(h, lower, upper, most), plainSense(h, lower, upper, most); got != want {
		t.Fatalf("SenseShaft(%+v, %v, %v, %d) is %+v, not %+v", h, lower, upper, most, got, want)
	}
}

func TestGrayByHand(t *testing.T) {
	rows := [][2]int64{
		{0, 0}, {1, 1}, {2, 3}, {3, 2}, {4, 6}, {5, 7}, {6, 5}, {7, 4}, {8, 12}, {15, 8}, {16, 24},
		{255, 128}, {256, 384}, {32767, 16384}, {32768, 49152}, {43690, 65535}, {21845, 32767}, {65534, 32769}, {65535, 32768},
	}
	for _, r := range rows {
		wantInt(t, fmt.Sprint("GrayOf ", r[0]), impl.GrayOf(r[0]), r[1])
		wantInt(t, fmt.Sprint("FromGray ", r[1]), impl.FromGray(r[1]), r[0])
	}
}

func TestGrayAtEveryNumber(t *testing.T) {
	isTold := map[int64]bool{}
	for n := range int64(wheel) {
		gray := impl.GrayOf(n)
		if gray != plainGray(n) {
			t.Fatalf("GrayOf(%d) is %+v, not %+v", n, gray, plainGray(n))
		}
		if back := impl.FromGray(gray.Value); back != (impl.IntResult{Value: n}) {
			t.Fatalf("FromGray(%d) is %+v, not %d", gray.Value, back, n)
		}
		isTold[gray.Value] = true
	}
	if len(isTold) != wheel {
		t.Errorf("GrayOf tells %d numbers", len(isTold))
	}
}

// The other way round: of every g it is the n whose GrayOf is g.
func TestFromGrayAtEveryNumber(t *testing.T) {
	for g := range int64(wheel) {
		n := impl.FromGray(g)
		if n.Code != impl.OK || plainGray(n.Value) != (impl.IntResult{Value: g}) {
			t.Fatalf("FromGray(%d) is %+v", g, n)
		}
	}
}

func TestGrayOutOfBounds(t *testing.T) {
	for _, n := range append(outside(0, lastCount), -wheel, -lastCount, 2*wheel, 1<<32, -1<<32, 1<<32+5) {
		wantIntCode(t, fmt.Sprint("GrayOf ", n), impl.GrayOf(n), impl.ErrRange)
		wantIntCode(t, fmt.Sprint("FromGray ", n), impl.FromGray(n), impl.ErrRange)
	}
}

// Promise 12: from each number to the next one bit turns, over the end as well.
func TestOneBitTurnsFromEachNumberToTheNext(t *testing.T) {
	for n := range int64(wheel) {
		next := (n + 1) % wheel
		turned := impl.GrayOf(n).Value ^ impl.GrayOf(next).Value
		if impl.BitsOf(turned) != 1 || ones(turned) != 1 {
			t.Fatalf("from %d to %d: %b turns", n, next, turned)
		}
	}
}

func TestBitsByHand(t *testing.T) {
	rows := [][2]int64{
		{0, 0}, {1, 1}, {-1, 64}, {least, 1}, {greatest, 63}, {least + 1, 2}, {-2, 63}, {2, 1}, {3, 2}, {5, 2}, {7, 3}, {255, 8}, {256, 1},
		{1<<32 - 1, 32}, {1 << 32, 1}, {-1 << 32, 32}, {1<<62 | 1, 2}, {0x5555555555555555, 32}, {-0x5555555555555555 - 1, 32},
	}
	for _, r := range rows {
		if got := impl.BitsOf(r[0]); got != r[1] {
			t.Errorf("BitsOf(%d) is %d, not %d", r[0], got, r[1])
		}
	}
}

func TestBitsAtEveryPlace(t *testing.T) {
	for place := range 64 {
		one := int64(1) << place
		below := one - 1
		if impl.BitsOf(one) != 1 || impl.BitsOf(^one) != 63 || impl.BitsOf(below) != int64(place) || impl.BitsOf(^below) != 64-int64(place) {
			t.Errorf("place %d: %d, %d, %d, %d", place, impl.BitsOf(one), impl.BitsOf(^one), impl.BitsOf(below), impl.BitsOf(^below))
		}
	}
	for _, a := range wideNumbers() {
		for _, b := range wideNumbers() {
			if got := impl.BitsOf(a ^ b); got != plainBits(a^b) {
				t.Errorf("BitsOf(%d) is %d, not %d", a^b, got, plainBits(a^b))
			}
		}
	}
}

func TestTurnsByHand(t *testing.T) {
	rows := [][3]int64{
		{65535, 2, 3}, {2, 65535, -3}, {65535, 0, 1}, {0, 65535, -1}, {0, 0, 0}, {65535, 65535, 0}, {7, 7, 0},
		{10, 25, 15}, {25, 10, -15}, {65000, 500, 1036}, {500, 65000, -1036},
		{0, 32767, 32767}, {32767, 0, -32767}, {0, 32768, -32768}, {32768, 0, -32768}, {0, 32769, -32767}, {32769, 0, 32767},
		{1, 32768, 32767}, {1, 32769, -32768}, {65535, 32766, 32767}, {65535, 32767, -32768}, {65535, 32768, -32767},
		{40000, 7231, 32767}, {40000, 7232, -32768}, {40000, 7233, -32767},
	}
	for _, r := range rows {
		wantInt(t, fmt.Sprintf("TurnDelta(%d, %d)", r[0], r[1]), impl.TurnDelta(r[0], r[1]), r[2])
	}
}

func TestTurnsOutOfBounds(t *testing.T) {
	askedTwo(t, "TurnDelta", impl.TurnDelta, [2]int64{0, lastCount}, [2]int64{0, lastCount})
	edges := []int64{-1, 0, lastCount, wheel}
	for _, old := range edges {
		for _, now := range edges {
			if got, want := impl.TurnDelta(old, now), plainDelta(old, now); got != want {
				t.Errorf("TurnDelta(%d, %d) is %+v, not %+v", old, now, got, want)
			}
		}
	}
	// These are right counts in their lowest 16 bits.
	for _, far := range []int64{wheel + 5, -lastCount, 1 << 32, 1<<32 + 7, -1 << 48} {
		wantIntCode(t, "a count that only wraps", impl.TurnDelta(far, 5), impl.ErrRange)
		wantIntCode(t, "a count that only wraps", impl.TurnDelta(5, far), impl.ErrRange)
	}
}

// From every count: none, one, just less than half a wheel, half of one and
// more, each way.
func TestTurnsFromEveryCount(t *testing.T) {
	turns := [][2]int64{
		{0, 0}, {1, 1}, {-1, -1}, {1000, 1000}, {-1000, -1000}, {32766, 32766}, {-32766, -32766},
		{32767, 32767}, {-32767, -32767}, {32768, -32768}, {-32768, -32768}, {32769, -32767}, {-32769, 32767},
		{65535, -1}, {-65535, 1}, {65536, 0},
	}
	for old := range int64(wheel) {
		for _, turn := range turns {
			now := modulo(old+turn[0], wheel)
			if got := impl.TurnDelta(old, now); got != (impl.IntResult{Value: turn[1]}) {
				t.Fatalf("TurnDelta(%d, %d) is %+v, not %d", old, now, got, turn[1])
			}
		}
	}
}

// Every turn, from counts of all kinds; back it is the same with its sign
// turned, but that half a wheel has one sign alone.
func TestEveryTurn(t *testing.T) {
	for _, old := range []int64{0, 1, 2, 255, 256, 12345, 32766, 32767, 32768, 32769, 50000, 65279, 65534, 65535} {
		for now := range int64(wheel) {
			there, back := impl.TurnDelta(old, now), impl.TurnDelta(now, old)
			if there != plainDelta(old, now) || back != plainDelta(now, old) {
				t.Fatalf("from %d to %d: %+v, back %+v", old, now, there, back)
			}
			if there.Value != -back.Value && (there.Value != -halfWheel || back.Value != -halfWheel) {
				t.Fatalf("from %d to %d: %d, back %d", old, now, there.Value, back.Value)
			}
		}
	}
}

// wheelTurns is a wheel that turns, and how far it came in all.
type wheelTurns struct {
	counts []int64
	far    int64
}

func (w *wheelTurns) turn(by int64) {
	w.far += by
	w.counts = append(w.counts, modulo(w.counts[len(w.counts)-1]+by, wheel))
}

func (w *wheelTurns) holdsFar(t *testing.T, scale int64) {
	t.Helper()
	sum := int64(0)
	for i := 1; i < len(w.counts); i++ {
		sum += impl.TurnDelta(w.counts[i-1], w.counts[i]).Value
	}
	if sum != w.far {
		t.Fatalf("%v: TurnDelta adds up to %d, not %d", w.counts, sum, w.far)
	}
	if got := impl.PathOf(w.counts, scale); got != (impl.IntResult{Value: w.far * scale}) {
		t.Fatalf("PathOf(%v, %d) is %+v, not %d", w.counts, scale, got, w.far*scale)
	}
}

// Promise 12: turns of less than half a wheel add up, many times over the end.
func TestTurnsAddUp(t *testing.T) {
	for _, start := range []int64{0, 1, 32767, 32768, 65535} {
		for _, by := range []int64{1, -1, 2, -2, 1000, -1000, 32766, -32766, 32767, -32767} {
			w := wheelTurns{counts: []int64{start}}
			for len(w.counts) < 60 {
				w.turn(by)
			}
			w.holdsFar(t, 1)
			w.holdsFar(t, 1000)
		}
	}
	d := &dice{state: 11}
	for range 4000 {
		w := wheelTurns{counts: []int64{d.upTo(0, lastCount)}}
		most := d.upTo(1, halfWheel-1)
		for range d.upTo(0, 59) {
			w.turn(d.upTo(-most, most))
		}
		w.holdsFar(t, d.upTo(1, 1000))
	}
}

func TestPathsByHand(t *testing.T) {
	rows := []struct {
		counts []int64
		scale  int64
		want   int64
	}{
		{nil, 1, 0},
		{[]int64{}, 1000, 0},
		{[]int64{0}, 1, 0},
		{[]int64{65535}, 1000, 0},
		{[]int64{5, 5}, 1000, 0},
		{[]int64{10, 25}, 1, 15},
		{[]int64{10, 25}, 1000, 15000},
		{[]int64{25, 10}, 7, -105},
		{[]int64{65535, 2}, 10, 30},
		{[]int64{2, 65535}, 10, -30},
		{[]int64{65530, 4, 8, 65532}, 3, 6},
		{[]int64{0, 100, 40, 90, 0}, 9, 0},
		{[]int64{0, 20000, 40000, 60000, 14464}, 1, 80000},
		{[]int64{0, 45536, 25536, 5536, 51072}, 1, -80000},
		{[]int64{0, 32767}, 1, 32767},
		{[]int64{0, 32768}, 1, -32768},
		{[]int64{0, 32768, 0}, 2, -131072},
		{[]int64{0, 40000}, 1, -25536},
	}
	for _, r := range rows {
		wantInt(t, fmt.Sprintf("PathOf(%v, %d)", r.counts, r.scale), impl.PathOf(r.counts, r.scale), r.want)
	}
}

// turningOn are so many counts, each one further than the one ahead by that.
func turningOn(count int, by int64) []int64 {
	list := []int64{}
	for i := range count {
		list = append(list, modulo(int64(i)*by, wheel))
	}
	return list
}

func TestHowManyCountsAPathHas(t *testing.T) {
	for count := range 61 {
		wantInt(t, fmt.Sprint(count, " counts"), impl.PathOf(turningOn(count, 3), 2), 6*int64(max(count-1, 0)))
	}
	for _, count := range []int{61, 62, 120, 1000} {
		wantIntCode(t, fmt.Sprint(count, " counts"), impl.PathOf(turningOn(count, 3), 2), impl.ErrMany)
	}
}

func TestScalesOfAPath(t *testing.T) {
	lists := [][]int64{nil, {}, {9}, {9, 12}, turningOn(60, -4)}
	for _, counts := range lists {
		for _, scale := range []int64{1, 2, 999, 1000} {
			if got := impl.PathOf(counts, scale); got.Code != impl.OK || got != plainPath(counts, scale) {
				t.Errorf("PathOf(%v, %d) is %+v", counts, scale, got)
			}
		}
		for _, scale := range append(outside(1, 1000), 0, 1001, -1, -1000) {
			wantIntCode(t, fmt.Sprintf("PathOf(%v, %d)", counts, scale), impl.PathOf(counts, scale), impl.ErrRange)
		}
	}
}

func TestCountsOfAPathOutOfBounds(t *testing.T) {
	for _, count := range []int{1, 2, 3, 59, 60} {
		for _, place := range []int{0, count / 2, count - 1} {
			for _, far := range append(outside(0, lastCount), -1, wheel, 1<<32) {
				counts := turningOn(count, 5)
				counts[place] = far
				wantIntCode(t, fmt.Sprintf("%d at %d of %d", far, place, count), impl.PathOf(counts, 1), impl.ErrRange)
			}
			for _, edge := range []int64{0, lastCount} {
				counts := turningOn(count, 5)
				counts[place] = edge
				holdsPath(t, counts, 1)
				if impl.PathOf(counts, 1).Code != impl.OK {
					t.Errorf("%d at %d of %d is refused", edge, place, count)
				}
			}
		}
	}
}

func TestWhichCodeOfAPathComesFirst(t *testing.T) {
	long, wrong := turningOn(61, 1), turningOn(61, 1)
	wrong[0], wrong[30], wrong[60] = -1, wheel, -1
	wantIntCode(t, "many and a wrong scale", impl.PathOf(long, 0), impl.ErrMany)
	wantIntCode(t, "many and a great scale", impl.PathOf(long, 1001), impl.ErrMany)
	wantIntCode(t, "many and wrong counts", impl.PathOf(wrong, 1), impl.ErrMany)
	wantIntCode(t, "many and all else wrong", impl.PathOf(wrong, 0), impl.ErrMany)
	wantIntCode(t, "just not many, and all else wrong", impl.PathOf(wrong[:60], 0), impl.ErrRange)
	wantIntCode(t, "just not many, and wrong counts", impl.PathOf(wrong[1:], 5), impl.ErrRange)
}

func TestGreatestPaths(t *testing.T) {
	wantInt(t, "up", impl.PathOf(turningOn(60, 32767), 1000), 1933253000)
	wantInt(t, "down", impl.PathOf(turningOn(60, -32768), 1000), -1933312000)
	wantInt(t, "down, and less than half a wheel", impl.PathOf(turningOn(60, -32767), 1000), -1933253000)
	wantInt(t, "half a wheel up is down", impl.PathOf(turningOn(60, 32768), 1000), -1933312000)
	d := &dice{state: 60}
	for range 3000 {
		var counts []int64
		for range 60 {
			counts = append(counts, d.upTo(0, lastCount))
		}
		holdsPath(t, counts, 1000)
		if got := impl.PathOf(counts, 1000).Value; got < -1933312000 || got > 1933253000 {
			t.Fatalf("%v: %d", counts, got)
		}
	}
}

func TestPathsOfAllKinds(t *testing.T) {
	d := &dice{state: 12}
	for range 20000 {
		var counts []int64
		for range d.upTo(0, 63) {
			counts = append(counts, d.upTo(0, lastCount))
		}
		if len(counts) > 0 && d.upTo(0, 3) == 0 {
			counts[d.upTo(0, int64(len(counts))-1)] = wideNumbers()[d.upTo(0, int64(len(wideNumbers()))-1)]
		}
		holdsPath(t, counts, d.upTo(-2, 1003))
		holdsPath(t, counts, d.upTo(0, 2))
	}
}

// inEveryOrder asks for the vote of three in each of their six orders.
func inEveryOrder(t *testing.T, three [3]int64, most int64, want impl.IntResult) {
	t.Helper()
	for _, o := range [][3]int{{0, 1, 2}, {0, 2, 1}, {1, 0, 2}, {1, 2, 0}, {2, 0, 1}, {2, 1, 0}} {
		if got := impl.VoteThree(three[o[0]], three[o[1]], three[o[2]], most); got != want {
			t.Errorf("VoteThree(%d, %d, %d, %d) is %+v, not %+v", three[o[0]], three[o[1]], three[o[2]], most, got, want)
		}
	}
}

func TestVotesByHand(t *testing.T) {
	rows := []struct {
		name  string
		three [3]int64
		most  int64
		want  impl.IntResult
	}{
		{"all the same", [3]int64{5, 5, 5}, 0, impl.IntResult{Value: 5}},
		{"all nought", [3]int64{0, 0, 0}, 0, impl.IntResult{}},
		{"the third far above", [3]int64{5, 6, 900}, 2, impl.IntResult{Value: 6}},
		{"the third far below", [3]int64{5, 6, -900}, 2, impl.IntResult{Value: 5}},
		{"two the same, the third far above", [3]int64{5, 5, 900}, 0, impl.IntResult{Value: 5}},
		{"two the same, the third far below", [3]int64{5, 5, -900}, 0, impl.IntResult{Value: 5}},
		{"two the same, the third next above", [3]int64{5, 5, 6}, 0, impl.IntResult{Value: 5}},
		{"two the same, the third next below", [3]int64{5, 5, 4}, 0, impl.IntResult{Value: 5}},
		{"just most apart, the two below", [3]int64{10, 17, 100}, 7, impl.IntResult{Value: 17}},
		{"one more apart, the two below", [3]int64{10, 18, 100}, 7, impl.IntResult{Code: impl.ErrForm}},
		{"just most apart, the two above", [3]int64{-100, 10, 17}, 7, impl.IntResult{Value: 10}},
		{"one more apart, the two above", [3]int64{-100, 10, 18}, 7, impl.IntResult{Code: impl.ErrForm}},
		{"neighbours alone are within most", [3]int64{0, 7, 14}, 7, impl.IntResult{Value: 7}},
		{"one pair of neighbours alone", [3]int64{0, 7, 15}, 7, impl.IntResult{Value: 7}},
		{"the other pair of neighbours alone", [3]int64{-8, 0, 7}, 7, impl.IntResult{Value: 0}},
		{"no neighbours", [3]int64{0, 8, 16}, 7, impl.IntResult{Code: impl.ErrForm}},
		{"no two the same, most 0", [3]int64{1, 2, 3}, 0, impl.IntResult{Code: impl.ErrForm}},
		{"all within most", [3]int64{1, 2, 3}, 2, impl.IntResult{Value: 2}},
		{"below nought", [3]int64{-3, -2, -1}, 1, impl.IntResult{Value: -2}},
		{"on both sides of nought", [3]int64{-1, 1, 50}, 2, impl.IntResult{Value: 1}},
		{"on both sides of nought, one less", [3]int64{-1, 1, 50}, 1, impl.IntResult{Code: impl.ErrForm}},
		{"the ends", [3]int64{-big1, 0, big1}, big1, impl.IntResult{Value: 0}},
		{"the ends, one less", [3]int64{-big1, 0, big1}, big1 - 1, impl.IntResult{Code: impl.ErrForm}},
		{"two at the low end", [3]int64{-big1, -big1, big1}, 0, impl.IntResult{Value: -big1}},
		{"two at the high end", [3]int64{-big1, big1, big1}, 0, impl.IntResult{Value: big1}},
	}
	for _, r := range rows {
		t.Run(r.name, func(t *testing.T) { inEveryOrder(t, r.three, r.most, r.want) })
	}
}

func TestVotesOutOfBounds(t *testing.T) {
	wrong, right := impl.IntResult{Code: impl.ErrRange}, impl.IntResult{}
	for _, edge := range []int64{-big1, big1} {
		inEveryOrder(t, [3]int64{0, 0, edge}, 0, right)
		inEveryOrder(t, [3]int64{edge, edge, edge}, 0, impl.IntResult{Value: edge})
	}
	for _, far := range append(outside(-big1, big1), -big1-1, big1+1) {
		inEveryOrder(t, [3]int64{0, 0, far}, 0, wrong)
		inEveryOrder(t, [3]int64{0, far, far}, big1, wrong)
		inEveryOrder(t, [3]int64{far, far, far}, 5, wrong)
		inEveryOrder(t, [3]int64{-big1, big1, far}, 5, wrong)
		inEveryOrder(t, [3]int64{0, 50, far}, 5, wrong)
	}
	for _, most := range []int64{0, 1, big1 - 1, big1} {
		inEveryOrder(t, [3]int64{0, 0, 0}, most, right)
	}
	for _, most := range append(outside(0, big1), -1, big1+1) {
		inEveryOrder(t, [3]int64{0, 0, 0}, most, wrong)
		inEveryOrder(t, [3]int64{0, 50, 100}, most, wrong)
		inEveryOrder(t, [3]int64{0, 50, big1 + 1}, most, wrong)
	}
}

func TestVotesAtEverySmallNumber(t *testing.T) {
	for a := int64(-6); a <= 6; a++ {
		for b := int64(-6); b <= 6; b++ {
			for c := int64(-6); c <= 6; c++ {
				for most := int64(-1); most <= 13; most++ {
					holdsVote(t, a, b, c, most)
				}
			}
		}
	}
}

func TestVotesAtWideNumbers(t *testing.T) {
	for _, a := range wideNumbers() {
		for _, b := range wideNumbers() {
			for _, c := range wideNumbers() {
				for _, most := range []int64{least, -1, 0, 1, 2, fast, big1 - 1, big1, big1 + 1, greatest} {
					holdsVote(t, a, b, c, most)
				}
			}
		}
	}
}

// wide is a number of any size up to the top, each size as often as another.
func (d *dice) wide(top int64) int64 {
	reach := top >> d.upTo(0, 49)
	return max(-top, min(top, d.upTo(-1, 1)*reach+d.upTo(-9, 9)))
}

// Promise 12: two that tell the same are believed, whatever the third one tells
// and however little they may lie apart.
func TestTwoThatTellTheSameAreBelieved(t *testing.T) {
	d := &dice{state: 13}
	numbers := []int64{-big1, -big1 + 1, -1, 0, 1, big1 - 1, big1}
	for range 20000 {
		numbers = append(numbers[:7], d.wide(big1), d.wide(big1))
		told, third := numbers[d.upTo(0, 8)], numbers[d.upTo(0, 8)]
		most := max(0, numbers[d.upTo(0, 8)])
		inEveryOrder(t, [3]int64{told, told, third}, most, impl.IntResult{Value: told})
		inEveryOrder(t, [3]int64{told, told, third}, 0, impl.IntResult{Value: told})
		holdsVote(t, told, third, d.wide(big1), most)
	}
}

func edgeReadings() []impl.Reading {
	var list []impl.Reading
	for _, pos := range []int64{leastPos, leastPos + 1, -4096, -2, -1, 0, 1, 2, 3, 7, 4095, 4096, 174762, 349525, mostPos - 1, mostPos} {
		for _, vel := range []int64{leastVel, leastVel + 1, -2, -1, 0, 1, 2, 3, 341, mostVel - 1, mostVel} {
			list = append(list, impl.Reading{Pos: pos, Vel: vel})
		}
	}
	return list
}

func TestReadingsByHand(t *testing.T) {
	rows := []struct {
		reading impl.Reading
		want    int64
	}{
		{impl.Reading{}, 0},
		{impl.Reading{Pos: 1}, 0x00001001},
		{impl.Reading{Vel: 1}, 0x00000005},
		{impl.Reading{Pos: 1, Vel: 1}, 0x00001006},
		{impl.Reading{Pos: 3, Vel: 1}, 0x00003007},
		{impl.Reading{Pos: 3, Vel: 3}, 0x0000300c},
		{impl.Reading{Pos: 7, Vel: 3}, 0x0000700d},
		{impl.Reading{Pos: -1}, 0xfffff000},
		{impl.Reading{Vel: -1}, 0x00000ffe},
		{impl.Reading{Pos: -1, Vel: -1}, 0xfffffffe},
		{impl.Reading{Pos: leastPos}, 0x80000001},
		{impl.Reading{Pos: mostPos}, 0x7ffff003},
		{impl.Reading{Vel: leastVel}, 0x00000801},
		{impl.Reading{Vel: mostVel}, 0x000007fd},
		{impl.Reading{Pos: leastPos, Vel: leastVel}, 0x80000802},
		{impl.Reading{Pos: mostPos, Vel: mostVel}, 0x7ffff7fc},
		{impl.Reading{Pos: leastPos, Vel: mostVel}, 0x800007fe},
		{impl.Reading{Pos: mostPos, Vel: leastVel}, 0x7ffff800},
		{impl.Reading{Pos: 0x12345, Vel: 0x67}, 0x12345<<12 | 0x67<<2},
		{impl.Reading{Pos: -2, Vel: -2}, 0xffffeff8},
	}
	for _, r := range rows {
		wantInt(t, fmt.Sprintf("PackReading(%+v)", r.reading), impl.PackReading(r.reading), r.want)
		if got := impl.UnpackReading(r.want); got != (impl.ReadingResult{Reading: r.reading}) {
			t.Errorf("UnpackReading(%x) is %+v, not %+v", r.want, got, r.reading)
		}
	}
}

// The two lowest bits, for readings with 0, 1, 2, 3, 4 bits and so on up to all.
func TestBitsThatCheck(t *testing.T) {
	d := &dice{state: 14}
	for count := range int64(31) {
		for range 200 {
			digits := []byte(strings.Repeat("1", int(count)) + strings.Repeat("0", int(30-count)))
			for i := range digits {
				j := d.upTo(0, int64(i))
				digits[i], digits[j] = digits[j], digits[i]
			}
			var r impl.Reading
			if _, err := fmt.Sscanf(string(digits[:20])+" "+string(digits[20:]), "%b %b", &r.Pos, &r.Vel); err != nil {
				t.Fatal(err)
			}
			if digits[0] == '1' {
				r.Pos -= 1 << 20
			}
			if digits[20] == '1' {
				r.Vel -= 1 << 10
			}
			var want int64
			if _, err := fmt.Sscanf(string(digits)+fmt.Sprintf("%02b", count%4), "%b", &want); err != nil {
				t.Fatal(err)
			}
			wantInt(t, fmt.Sprintf("%s: PackReading(%+v)", digits, r), impl.PackReading(r), want)
		}
	}
}

func TestReadingsOutOfBounds(t *testing.T) {
	for _, vel := range []int64{leastVel, -1, 0, mostVel} {
		for _, pos := range append(outside(leastPos, mostPos), leastPos-1, mostPos+1, 1<<20, -1<<20, 1<<32) {
			wantIntCode(t, fmt.Sprintf("Pos %d, Vel %d", pos, vel), impl.PackReading(impl.Reading{Pos: pos, Vel: vel}), impl.ErrRange)
		}
	}
	for _, pos := range []int64{leastPos, -1, 0, mostPos} {
		for _, vel := range append(outside(leastVel, mostVel), leastVel-1, mostVel+1, 1<<10, -1<<10, 1<<32) {
			wantIntCode(t, fmt.Sprintf("Pos %d, Vel %d", pos, vel), impl.PackReading(impl.Reading{Pos: pos, Vel: vel}), impl.ErrRange)
		}
	}
	wantIntCode(t, "both", impl.PackReading(impl.Reading{Pos: mostPos + 1, Vel: leastVel - 1}), impl.ErrRange)
	for _, r := range edgeReadings() {
		holdsPacked(t, r)
		if impl.PackReading(r).Code != impl.OK {
			t.Errorf("%+v is refused", r)
		}
	}
}

func TestWordsByHand(t *testing.T) {
	rows := []struct {
		word int64
		want impl.ReadingResult
	}{
		{-1, impl.ReadingResult{Code: impl.ErrRange}},
		{0, impl.ReadingResult{}},
		{1, impl.ReadingResult{Code: impl.ErrForm}},
		{3, impl.ReadingResult{Code: impl.ErrForm}},
		{4096, impl.ReadingResult{Code: impl.ErrForm}},
		{4097, impl.ReadingResult{Reading: impl.Reading{Pos: 1}}},
		{4098, impl.ReadingResult{Code: impl.ErrForm}},
		{4099, impl.ReadingResult{Code: impl.ErrForm}},
		{words - 2, impl.ReadingResult{Reading: impl.Reading{Pos: -1, Vel: -1}}},
		{words - 1, impl.ReadingResult{Code: impl.ErrForm}},
		{words, impl.ReadingResult{Code: impl.ErrRange}},
		{words + 4097, impl.ReadingResult{Code: impl.ErrRange}},
		{4097 - words, impl.ReadingResult{Code: impl.ErrRange}},
	}
	for _, r := range rows {
		if got := impl.UnpackReading(r.word); got != r.want {
			t.Errorf("UnpackReading(%d) is %+v, not %+v", r.word, got, r.want)
		}
	}
	for _, w := range outside(0, words-1) {
		if got := impl.UnpackReading(w); got != (impl.ReadingResult{Code: impl.ErrRange}) {
			t.Errorf("UnpackReading(%d) is %+v", w, got)
		}
	}
}

// toldAgain holds a reading packed and unpacked, and promise 12: each bit of the
// 32 that turned is found.
func toldAgain(t *testing.T, r impl.Reading) {
	t.Helper()
	w := impl.PackReading(r)
	if got := impl.UnpackReading(w.Value); w.Code != impl.OK || got != (impl.ReadingResult{Reading: r}) {
		t.Fatalf("%+v is packed as %+v, and told again as %+v", r, w, got)
	}
	for place := range 32 {
		turned := w.Value ^ 1<<place
		if got := impl.UnpackReading(turned); got != (impl.ReadingResult{Code: impl.ErrForm}) {
			t.Fatalf("%+v is %032b; with bit %d turned it is %+v", r, w.Value, place, got)
		}
	}
}

func TestOneBitThatTurnedIsFound(t *testing.T) {
	for _, r := range edgeReadings() {
		toldAgain(t, r)
	}
	for vel := int64(leastVel); vel <= mostVel; vel++ {
		for _, pos := range []int64{leastPos, -1, 0, 1, 99999, mostPos} {
			toldAgain(t, impl.Reading{Pos: pos, Vel: vel})
		}
	}
	d := &dice{state: 15}
	for range 60000 {
		toldAgain(t, impl.Reading{Pos: d.upTo(leastPos, mostPos), Vel: d.upTo(leastVel, mostVel)})
	}
}

// Of the four words that tell one reading, just one has the bits that check it.
func TestEveryPlaceIsToldAgain(t *testing.T) {
	d := &dice{state: 16}
	for pos := int64(leastPos); pos <= mostPos; pos++ {
		r := impl.Reading{Pos: pos, Vel: d.upTo(leastVel, mostVel)}
		holdsPacked(t, r)
		w := impl.PackReading(r).Value
		for check := range int64(4) {
			want := impl.ReadingResult{Code: impl.ErrForm}
			if w%4 == check {
				want = impl.ReadingResult{Reading: r}
			}
			if got := impl.UnpackReading(w/4*4 + check); got != want {
				t.Fatalf("UnpackReading(%d) is %+v, not %+v", w/4*4+check, got, want)
			}
		}
	}
}

func TestWordsOfAllKinds(t *testing.T) {
	d := &dice{state: 17}
	for range 300000 {
		holdsUnpacked(t, d.upTo(0, 65535)*65536+d.upTo(0, 65535))
	}
	for w := range int64(70000) {
		holdsUnpacked(t, w)
		holdsUnpacked(t, words-1-w)
		holdsUnpacked(t, -w)
		holdsUnpacked(t, words+w)
	}
}

func same3(n int64) []int64 {
	return []int64{n, n, n}
}

// The example's LowEnd is -452, its HighEnd 1252, and its Length 100.
func TestSensedShaftsByHand(t *testing.T) {
	rows := []struct {
		name         string
		lower, upper []int64
		most         int64
		code         int64
		low, high    int64
	}{
		{"both right", []int64{0, 1, 9}, []int64{800, 800, 5}, 2, impl.OK, 1, 800},
		{"all agree", same3(0), same3(800), 0, impl.OK, 0, 800},
		{"the middle ones", []int64{12, 10, 11}, []int64{803, 805, 804}, 1, impl.OK, 11, 804},
		{"one of each is far off", []int64{-big1, 5, 5}, []int64{700, big1, 700}, 0, impl.OK, 5, 700},
		{"the greatest most", []int64{0, big1, -big1}, []int64{big1, 300, -big1}, big1, impl.OK, 0, 300},
		{"just Length", same3(0), same3(100), 0, impl.OK, 0, 100},
		{"at both ends", same3(-452), same3(1252), 0, impl.OK, -452, 1252},
		{"no lower", nil, same3(800), 0, impl.ErrMany, 0, 0},
		{"an empty lower", []int64{}, same3(800), 0, impl.ErrMany, 0, 0},
		{"two of lower", []int64{0, 0}, same3(800), 0, impl.ErrMany, 0, 0},
		{"four of lower", []int64{0, 0, 0, 0}, same3(800), 0, impl.ErrMany, 0, 0},
		{"no upper", same3(0), nil, 0, impl.ErrMany, 0, 0},
		{"an empty upper", same3(0), []int64{}, 0, impl.ErrMany, 0, 0},
		{"two of upper", same3(0), []int64{800, 800}, 0, impl.ErrMany, 0, 0},
		{"four of upper", same3(0), []int64{800, 800, 800, 800}, 0, impl.ErrMany, 0, 0},
		{"none at all", nil, nil, 0, impl.ErrMany, 0, 0},
		{"many goes ahead of most", []int64{0, 0}, same3(800), -1, impl.ErrMany, 0, 0},
		{"many of upper goes ahead of lower's vote", []int64{0, 50, 100}, []int64{800}, 5, impl.ErrMany, 0, 0},
		{"most below 0", same3(0), same3(800), -1, impl.ErrRange, 0, 0},
		{"most above the top", same3(0), same3(800), big1 + 1, impl.ErrRange, 0, 0},
		{"most goes ahead of both votes", []int64{0, 50, 100}, []int64{600, 700, 800}, -1, impl.ErrRange, 0, 0},
		{"lower does not agree", []int64{0, 50, 100}, same3(800), 49, impl.ErrForm, 0, 0},
		{"lower just agrees", []int64{0, 50, 100}, same3(800), 50, impl.OK, 50, 800},
		{"upper does not agree", same3(0), []int64{600, 700, 800}, 99, impl.ErrForm, 0, 0},
		{"upper just agrees", same3(0), []int64{600, 700, 800}, 100, impl.OK, 0, 700},
		{"lower is beyond the top", []int64{0, 0, big1 + 1}, same3(800), 0, impl.ErrRange, 0, 0},
		{"upper is beyond the top", same3(0), []int64{800, -big1 - 1, 800}, 0, impl.ErrRange, 0, 0},
		{"form of lower goes ahead of range of upper", []int64{0, 50, 100}, []int64{800, 800, big1 + 1}, 0, impl.ErrForm, 0, 0},
		{"range of lower goes ahead of form of upper", []int64{0, 0, big1 + 1}, []int64{600, 700, 800}, 0, impl.ErrRange, 0, 0},
		{"form of upper goes ahead of a lower outside", same3(-453), []int64{600, 700, 800}, 0, impl.ErrForm, 0, 0},
		{"range of lower goes ahead of two too near", []int64{800, 800, big1 + 1}, same3(800), 0, impl.ErrRange, 0, 0},
		{"lower below the shaft", same3(-453), same3(800), 0, impl.ErrRange, 0, 0},
		{"lower above the shaft", same3(1253), same3(800), 0, impl.ErrRange, 0, 0},
		{"upper above the shaft", same3(0), same3(1253), 0, impl.ErrRange, 0, 0},
		{"upper below the shaft", same3(0), same3(-453), 0, impl.ErrRange, 0, 0},
		{"far outside", same3(-big1), same3(big1), 0, impl.ErrRange, 0, 0},
		{"too near", same3(0), same3(99), 0, impl.ErrForm, 0, 0},
		{"at one place", same3(400), same3(400), 0, impl.ErrForm, 0, 0},
		{"in the wrong order", same3(800), same3(0), 0, impl.ErrForm, 0, 0},
		{"too near by the middle alone", []int64{0, 0, 701}, []int64{99, 99, 800}, 0, impl.ErrForm, 0, 0},
	}
	for _, r := range rows {
		want := impl.ShaftResult{Code: r.code, Shaft: impl.Shaft{Lower: standing(r.low), Upper: standing(r.high)}}
		if got := impl.SenseShaft(exampleHouse(), r.lower, r.upper, r.most); got != want {
			t.Errorf("%s: %+v, not %+v", r.name, got, want)
		}
	}
}

func TestSensedShaftsInHousesWithFaults(t *testing.T) {
	lists := [][]int64{nil, {}, {0, 0}, same3(0), {0, 50, 100}, same3(big1 + 1), {0, 0, 0, 0}}
	for _, h := range []impl.House{nearHouse(), outHouse(), {}} {
		fault := impl.HouseFault(h)
		for _, lower := range lists {
			for _, upper := range lists {
				for _, most := range []int64{-1, 0, big1 + 1} {
					if got := impl.SenseShaft(h, lower, upper, most); fault == impl.OK || got != (impl.ShaftResult{Code: fault}) {
						t.Errorf("%+v: SenseShaft(%v, %v, %d) is %+v", h, lower, upper, most, got)
					}
				}
			}
		}
	}
}

// sensors are three numbers near a place, of which at times one, and seldom
// more, are far off.
func (d *dice) sensors(place, wide int64) []int64 {
	list := []int64{place + d.upTo(-wide, wide), place + d.upTo(-wide, wide), place + d.upTo(-wide, wide)}
	for range d.upTo(0, 4) / 2 {
		list[d.upTo(0, 2)] = []int64{d.wide(big1), d.wide(2 * big1), least, greatest, place}[d.upTo(0, 4)]
	}
	if d.upTo(0, 30) == 0 {
		list = append(list, place)[:d.upTo(0, 4)]
	}
	return list
}

func TestSensedShaftsOfAllKinds(t *testing.T) {
	d := &dice{state: 18}
	for _, h := range append(rightHouses(), driftHouse(), smallHouse(), nearHouse()) {
		low, high := impl.LowEnd(h).Value, impl.HighEnd(h).Value
		right := 0
		for range 8000 {
			a, b := d.upTo(low-3, high+3), d.upTo(low-3, high+3)
			if d.upTo(0, 3) == 0 {
				b = a + h.Length + d.upTo(-3, 3)
			}
			lower, upper := d.sensors(a, 3), d.sensors(b, 3)
			most := []int64{-1, 0, 1, 2, 3, 6, big1, big1 + 1}[d.upTo(0, 7)]
			holdsSense(t, h, lower, upper, most)
			if r := impl.SenseShaft(h, lower, upper, most); r.Code == impl.OK {
				right++
				if impl.ShaftFault(h, r.Shaft) != impl.OK || impl.HaltShaft(h, r.Shaft) != (impl.IntResult{}) {
					t.Fatalf("%+v: %v and %v tell %+v", h, lower, upper, r)
				}
			}
		}
		if impl.HouseFault(h) == impl.OK && right == 0 {
			t.Errorf("%+v: no shaft was right", h)
		}
	}
}

// Promise 12, for a whole shaft: where two sensors of each car tell where it
// stands, that is believed, whatever the third ones tell.
func TestTwoSensorsOfEachCarAreBelieved(t *testing.T) {
	d := &dice{state: 19}
	for _, h := range rightHouses() {
		low, high := impl.LowEnd(h).Value, impl.HighEnd(h).Value
		for range 3000 {
			a := d.upTo(low, high-h.Length)
			b := d.upTo(a+h.Length, high)
			lower, upper := same3(a), same3(b)
			lower[d.upTo(0, 2)], upper[d.upTo(0, 2)] = d.wide(big1), d.wide(big1)
			want := impl.ShaftResult{Shaft: impl.Shaft{Lower: standing(a), Upper: standing(b)}}
			if got := impl.SenseShaft(h, lower, upper, max(0, d.wide(big1))); got != want {
				t.Fatalf("%+v: SenseShaft(%v, %v) is %+v, not %+v", h, lower, upper, got, want)
			}
		}
	}
}

// Lists with room behind them, which an append would fill: none is changed, and
// what they become afterwards leaves the answers as they were.
func TestSensorsChangeNoArgument(t *testing.T) {
	for _, count := range []int{0, 1, 2, 3, 4, 60, 61} {
		counts := append(make([]int64, 0, count+4), turningOn(count, 9000)...)
		slices.Reverse(counts)
		before := slices.Clone(counts[:cap(counts)])
		got := impl.PathOf(counts, 3)
		kept := got
		if !slices.Equal(counts[:cap(counts)], before) {
			t.Errorf("PathOf of %d counts changes them", count)
		}
		spoilInts(counts[:cap(counts)])
		if got != kept || impl.PathOf(before[:count], 3) != kept {
			t.Errorf("PathOf of %d counts: %+v, then %+v", count, kept, got)
		}
	}
	lists := [][]int64{nil, {9}, {9, 5, 1}, {5, 9, 1}, {5, 5, 900}, {801, 805, 803}, {803, 5, 801}, {1, 2, 3, 4}}
	for _, a := range lists {
		for _, b := range lists {
			for _, most := range []int64{-1, 0, 4} {
				lower, upper := append(make([]int64, 0, 8), a...), append(make([]int64, 0, 8), b...)
				allLower, allUpper := lower[:8], upper[:8]
				beforeLower, beforeUpper := slices.Clone(allLower), slices.Clone(allUpper)
				got := impl.SenseShaft(exampleHouse(), lower, upper, most)
				kept := got
				if !slices.Equal(allLower, beforeLower) || !slices.Equal(allUpper, beforeUpper) {
					t.Errorf("SenseShaft of %v and %v changes them: %v, %v", a, b, allLower, allUpper)
				}
				spoilInts(allLower)
				spoilInts(allUpper)
				if got != kept || impl.SenseShaft(exampleHouse(), a, b, most) != kept {
					t.Errorf("SenseShaft of %v and %v: %+v, then %+v", a, b, kept, got)
				}
			}
		}
	}
}

// One list given twice is asked as two are.
func TestOneListForBothCars(t *testing.T) {
	for _, h := range rightHouses() {
		both := []int64{3, 1, 2}
		if got := impl.SenseShaft(h, both, both, 5); got != (impl.ShaftResult{Code: impl.ErrForm}) || !slices.Equal(both, []int64{3, 1, 2}) {
			t.Errorf("%+v: %+v of %v", h, got, both)
		}
	}
}

type senseAnswers struct {
	gray, from, turn, path, vote, packed impl.IntResult
	reading                              impl.ReadingResult
	bits                                 int64
	shaft                                impl.ShaftResult
}

func senseAnswersEverywhere() []senseAnswers {
	var list []senseAnswers
	houses := []impl.House{exampleHouse(), nearHouse(), outHouse()}
	for i, a := range append(wideNumbers(), lastCount, wheel, words-1, words, mostPos, leastPos) {
		for j, b := range append(wideNumbers(), lastCount, wheel, mostVel, leastVel) {
			for k, c := range wideNumbers() {
				h := houses[(i+j+k)%len(houses)]
				list = append(list, senseAnswers{
					impl.GrayOf(a), impl.FromGray(a), impl.TurnDelta(a, b), impl.PathOf([]int64{a, b, c}[:k%4], b),
					impl.VoteThree(a, b, c, a), impl.PackReading(impl.Reading{Pos: a, Vel: b}), impl.UnpackReading(a), impl.BitsOf(b),
					impl.SenseShaft(h, []int64{a, b, c}, []int64{c, c, b}, max(a, 0)),
				})
			}
		}
	}
	for _, h := range housesOfAllKinds() {
		for _, a := range wideNumbers() {
			list = append(list, senseAnswers{shaft: impl.SenseShaft(h, same3(0), []int64{a, h.Gap, h.Gap}, 5)})
		}
	}
	return list
}

// Every call of chapter 11 answers whatever it is given, and the same again when
// other calls stood between.
func TestSenseAnswersEverywhere(t *testing.T) {
	sameTwice(t, senseAnswersEverywhere)
}
