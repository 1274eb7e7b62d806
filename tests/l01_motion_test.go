package tests

import (
	"math"
	"math/big"
	"testing"

	"loop.example/g00155/impl"
)

const (
	least    = math.MinInt64
	greatest = math.MaxInt64
	big1     = impl.MaxBig
	fast     = impl.MaxSpeed
)

// wideNumbers are those at which sums, products and bounds turn.
func wideNumbers() []int64 {
	return []int64{
		least, least + 1, least + big1, -1 << 62, -1 << 32, -3 * big1, -2 * big1,
		-big1 - 1, -big1, -big1 + 1, -31622777, -31622776, -fast - 1, -fast, -fast + 1, -3, -2, -1,
		0, 1, 2, 3, fast - 1, fast, fast + 1, 31622776, 31622777, big1 - 1, big1, big1 + 1,
		2 * big1, 3 * big1, 1 << 32, 1 << 62, greatest - big1, greatest - 1, greatest,
	}
}

// brakes are all the small ones, and the edges of the great ones.
func brakes() []int64 {
	list := []int64{333, 499, 500, 501, 666, 667, 999, 1000, 1001, fast - 1, fast}
	for b := range int64(60) {
		list = append(list, b+1)
	}
	return list
}

func topped(n *big.Int) int64 {
	top := big.NewInt(big1)
	if n.CmpAbs(top) <= 0 {
		return n.Int64()
	}
	return int64(n.Sign()) * big1
}

func wantInt(t *testing.T, name string, got impl.IntResult, value int64) {
	t.Helper()
	if want := (impl.IntResult{Code: impl.OK, Value: value}); got != want {
		t.Errorf("%s: %+v, not %+v", name, got, want)
	}
}

func wantMove(t *testing.T, name string, got impl.MoveResult, pos, vel int64) {
	t.Helper()
	if want := (impl.MoveResult{Code: impl.OK, Pos: pos, Vel: vel}); got != want {
		t.Errorf("%s: %+v, not %+v", name, got, want)
	}
}

func TestCodesAndTops(t *testing.T) {
	codes := []int64{impl.OK, impl.ErrForm, impl.ErrMany, impl.ErrRange, impl.ErrNone, impl.ErrText, impl.ErrTaken, impl.ErrBusy, impl.ErrDown}
	for i, code := range codes {
		if code != int64(i) {
			t.Errorf("code %d is %d", i, code)
		}
	}
	if impl.MaxSpeed != 2000 || impl.MaxBig != 1000000000000000 {
		t.Error("tops")
	}
}

func TestAddTopIsTheToppedSum(t *testing.T) {
	for _, a := range wideNumbers() {
		for _, b := range wideNumbers() {
			want := topped(new(big.Int).Add(big.NewInt(a), big.NewInt(b)))
			if got := impl.AddTop(a, b); got != want {
				t.Errorf("AddTop(%d, %d) is %d, not %d", a, b, got, want)
			}
		}
	}
}

func TestMulTopIsTheToppedProduct(t *testing.T) {
	for _, a := range wideNumbers() {
		for _, b := range wideNumbers() {
			want := topped(new(big.Int).Mul(big.NewInt(a), big.NewInt(b)))
			if got := impl.MulTop(a, b); got != want {
				t.Errorf("MulTop(%d, %d) is %d, not %d", a, b, got, want)
			}
		}
	}
}

func TestTopsByHand(t *testing.T) {
	rows := []struct{ got, want int64 }{
		{impl.AddTop(7, -12), -5},
		{impl.AddTop(least, least), -big1},
		{impl.AddTop(greatest, greatest), big1},
		{impl.AddTop(least, greatest), -1},
		{impl.AddTop(greatest, least), -1},
		{impl.AddTop(big1-1, 1), big1},
		{impl.AddTop(big1-1, 2), big1},
		{impl.AddTop(1-big1, -1), -big1},
		{impl.AddTop(1-big1, -2), -big1},
		{impl.AddTop(2*big1, -big1-1), big1 - 1},
		{impl.MulTop(-3, 5), -15},
		{impl.MulTop(-3, -5), 15},
		{impl.MulTop(least, least), big1},
		{impl.MulTop(greatest, greatest), big1},
		{impl.MulTop(least, greatest), -big1},
		{impl.MulTop(greatest, least), -big1},
		{impl.MulTop(least, -1), big1},
		{impl.MulTop(-1, least), big1},
		{impl.MulTop(least, 0), 0},
		{impl.MulTop(0, greatest), 0},
		// These products are 0 and 2 to the power of 63 in their low 64 bits.
		{impl.MulTop(1<<32, 1<<32), big1},
		{impl.MulTop(1<<32, -1<<32), -big1},
		{impl.MulTop(1<<62, 6), big1},
		{impl.MulTop(big1, 1), big1},
		{impl.MulTop(big1, -1), -big1},
	}
	for i, row := range rows {
		if row.got != row.want {
			t.Errorf("row %d: %d, not %d", i, row.got, row.want)
		}
	}
}

func TestRoundUp(t *testing.T) {
	for a := range int64(60) {
		for b := int64(1); b < 20; b++ {
			want := a / b
			if want*b < a {
				want++
			}
			wantInt(t, "RoundUp", impl.RoundUp(a, b), want)
		}
	}
	wantInt(t, "top by 1", impl.RoundUp(big1, 1), big1)
	wantInt(t, "top by 2", impl.RoundUp(big1-1, 2), big1/2)
	wantInt(t, "below the top by the top", impl.RoundUp(big1-1, big1), 1)
	wantInt(t, "top by itself", impl.RoundUp(big1, big1), 1)
	wantInt(t, "top by one below it", impl.RoundUp(big1, big1-1), 2)
	wantInt(t, "0 by the top", impl.RoundUp(0, big1), 0)
	wantInt(t, "1 by the top", impl.RoundUp(1, big1), 1)
}

func TestRootDown(t *testing.T) {
	for root := range int64(400) {
		for n := root * root; n < (root+1)*(root+1); n++ {
			wantInt(t, "RootDown", impl.RootDown(n), root)
		}
	}
	const top = 31622776
	for _, root := range []int64{46340, 46341, 65535, 65536, 1 << 24, top - 1, top} {
		wantInt(t, "a square", impl.RootDown(root*root), root)
		wantInt(t, "below a square", impl.RootDown(root*root-1), root-1)
		wantInt(t, "above a square", impl.RootDown(root*root+1), root)
	}
	wantInt(t, "below the top", impl.RootDown(big1-1), top)
	wantInt(t, "the top", impl.RootDown(big1), top)
}

// What StopPath and StopTicks tell is what BrakeOn does, to both sides.
func TestWhoBrakesGoesJustThePath(t *testing.T) {
	for _, brake := range brakes() {
		for speed := range int64(fast + 1) {
			pos, vel, ticks := int64(0), speed, int64(0)
			for vel != 0 && ticks <= fast {
				up := impl.BrakeOn(pos, vel, brake)
				down := impl.BrakeOn(-pos, -vel, brake)
				if up.Code != impl.OK || down != (impl.MoveResult{Pos: -up.Pos, Vel: -up.Vel}) {
					t.Fatalf("BrakeOn(%d, %d, %d): %+v, turned round %+v", pos, vel, brake, up, down)
				}
				pos, vel = up.Pos, up.Vel
				ticks++
			}
			if path := impl.StopPath(speed, brake); path != (impl.IntResult{Value: pos}) {
				t.Fatalf("StopPath(%d, %d): %+v, gone %d", speed, brake, path, pos)
			}
			if got := impl.StopTicks(speed, brake); got != (impl.IntResult{Value: ticks}) {
				t.Fatalf("StopTicks(%d, %d): %+v, taken %d", speed, brake, got, ticks)
			}
		}
	}
}

func TestStopPathIsItsSum(t *testing.T) {
	for _, brake := range brakes() {
		for speed := range int64(fast + 1) {
			sum, ticks := int64(0), int64(0)
			for left := speed; left > 0; left -= brake {
				sum += max(left-brake, 0)
				ticks++
			}
			if impl.StopPath(speed, brake).Value != sum || impl.StopTicks(speed, brake).Value != ticks {
				t.Fatalf("of %d, %d: %d in %d", speed, brake, sum, ticks)
			}
		}
	}
	wantInt(t, "example", impl.StopPath(50, 10), 100)
	wantInt(t, "a rest", impl.StopPath(51, 10), 105)
	wantInt(t, "the longest", impl.StopPath(fast, 1), 1999000)
	wantInt(t, "at once", impl.StopPath(fast, fast), 0)
	wantInt(t, "nearly at once", impl.StopPath(fast, fast-1), 1)
	wantInt(t, "stands", impl.StopPath(0, 1), 0)
	wantInt(t, "example", impl.StopTicks(50, 10), 5)
	wantInt(t, "a rest", impl.StopTicks(51, 10), 6)
	wantInt(t, "the longest", impl.StopTicks(fast, 1), fast)
	wantInt(t, "at once", impl.StopTicks(fast, fast), 1)
	wantInt(t, "stands", impl.StopTicks(0, fast), 0)
}

func TestStopBound(t *testing.T) {
	for _, brake := range brakes() {
		for speed := range int64(fast + 1) {
			got := impl.StopBound(speed, brake)
			isLeast := got.Value*2*brake >= speed*speed && (got.Value-1)*2*brake < speed*speed
			if got.Code != impl.OK || !isLeast || got.Value < impl.StopPath(speed, brake).Value {
				t.Fatalf("StopBound(%d, %d): %+v", speed, brake, got)
			}
		}
	}
	wantInt(t, "example", impl.StopBound(50, 10), 125)
	wantInt(t, "rounded", impl.StopBound(51, 10), 131)
	wantInt(t, "the greatest", impl.StopBound(fast, 1), 2000000)
	wantInt(t, "the least above 0", impl.StopBound(1, fast), 1)
	wantInt(t, "stands", impl.StopBound(0, 1), 0)
}

func TestMoveOn(t *testing.T) {
	rows := []struct{ pos, vel, acc, wantPos, wantVel int64 }{
		{5, 7, 3, 15, 10},
		{5, 7, -10, 2, -3},
		{-5, 0, 0, -5, 0},
		{0, fast - 1, 1, fast, fast},
		{0, fast, 1, fast, fast},
		{0, fast, fast, fast, fast},
		{0, 1 - fast, -1, -fast, -fast},
		{0, -fast, -1, -fast, -fast},
		{0, -fast, -fast, -fast, -fast},
		{0, fast, -fast, 0, 0},
		{0, -fast, fast, 0, 0},
		{big1, fast, 0, big1 + fast, fast},
		{big1 - 1, 1, 0, big1, 1},
		{-big1, -fast, 0, -big1 - fast, -fast},
		{1 - big1, 0, -1, -big1, -1},
	}
	for _, r := range rows {
		wantMove(t, "MoveOn", impl.MoveOn(r.pos, r.vel, r.acc), r.wantPos, r.wantVel)
	}
}

func TestBrakeOn(t *testing.T) {
	rows := []struct{ pos, vel, brake, wantPos, wantVel int64 }{
		{5, 12, 10, 7, 2},
		{5, -12, 10, 3, -2},
		{5, 10, 10, 5, 0},
		{5, -10, 10, 5, 0},
		{5, 9, 10, 5, 0},
		{5, -9, 10, 5, 0},
		{5, 11, 10, 6, 1},
		{5, -11, 10, 4, -1},
		{5, 0, 1, 5, 0},
		{0, fast, 1, fast - 1, fast - 1},
		{0, -fast, 1, 1 - fast, 1 - fast},
		{0, fast, fast, 0, 0},
		{0, -1, fast, 0, 0},
		{big1, fast, 1, big1 + fast - 1, fast - 1},
		{-big1, -fast, 1, -big1 - fast + 1, 1 - fast},
	}
	for _, r := range rows {
		wantMove(t, "BrakeOn", impl.BrakeOn(r.pos, r.vel, r.brake), r.wantPos, r.wantVel)
	}
}

// No greater speed than is told may be stopped on a path, and the one that is
// told may be.
func TestSpeedForIsTheGreatest(t *testing.T) {
	for _, brake := range brakes() {
		want := int64(0)
		for path := range int64(4100) {
			for want < fast && want+1+impl.StopPath(want+1, brake).Value <= path {
				want++
			}
			if got := impl.SpeedFor(path, brake); got != (impl.IntResult{Value: want}) {
				t.Fatalf("SpeedFor(%d, %d): %+v, not %d", path, brake, got, want)
			}
		}
		most := fast + impl.StopPath(fast, brake).Value
		wantInt(t, "just the top", impl.SpeedFor(most, brake), fast)
		wantInt(t, "one above", impl.SpeedFor(most+1, brake), fast)
		wantInt(t, "one below", impl.SpeedFor(most-1, brake), fast-1)
		wantInt(t, "far above", impl.SpeedFor(big1, brake), fast)
	}
	wantInt(t, "example", impl.SpeedFor(100, 10), 40)
	wantInt(t, "one below the example", impl.SpeedFor(99, 10), 39)
	wantInt(t, "no path", impl.SpeedFor(0, 1), 0)
	wantInt(t, "one", impl.SpeedFor(1, 1), 1)
}

// outside are the numbers that are none of low to high, next to it and far.
func outside(low, high int64) []int64 {
	return []int64{least, least + 1, -big1 * 3, low - 1, high + 1, big1 * 3, greatest - 1, greatest}
}

// askedTwo holds a function of two arguments against its bounds: each edge is
// taken, each number beyond one is ErrRange with all else zero.
func askedTwo(t *testing.T, name string, f func(int64, int64) impl.IntResult, a, b [2]int64) {
	t.Helper()
	wrong := impl.IntResult{Code: impl.ErrRange}
	for _, x := range a {
		for _, y := range b {
			if got := f(x, y); got.Code != impl.OK {
				t.Errorf("%s(%d, %d): %+v", name, x, y, got)
			}
			for _, far := range outside(a[0], a[1]) {
				if got := f(far, y); got != wrong {
					t.Errorf("%s(%d, %d): %+v", name, far, y, got)
				}
			}
			for _, far := range outside(b[0], b[1]) {
				if got := f(x, far); got != wrong {
					t.Errorf("%s(%d, %d): %+v", name, x, far, got)
				}
			}
		}
	}
}

// askedThree does so for one of three arguments.
func askedThree(t *testing.T, name string, f func(int64, int64, int64) impl.MoveResult, a, b, c [2]int64) {
	t.Helper()
	wrong := impl.MoveResult{Code: impl.ErrRange}
	refused := func(x, y, z int64) {
		if got := f(x, y, z); got != wrong {
			t.Errorf("%s(%d, %d, %d): %+v", name, x, y, z, got)
		}
	}
	for i := range 8 {
		x, y, z := a[i&1], b[i>>1&1], c[i>>2]
		if got := f(x, y, z); got.Code != impl.OK {
			t.Errorf("%s(%d, %d, %d): %+v", name, x, y, z, got)
		}
		for _, far := range outside(a[0], a[1]) {
			refused(far, y, z)
		}
		for _, far := range outside(b[0], b[1]) {
			refused(x, far, z)
		}
		for _, far := range outside(c[0], c[1]) {
			refused(x, y, far)
		}
	}
}

func TestRangesOfMotion(t *testing.T) {
	speeds, loss := [2]int64{0, fast}, [2]int64{1, fast}
	askedTwo(t, "RoundUp", impl.RoundUp, [2]int64{0, big1}, [2]int64{1, big1})
	wrong := impl.IntResult{Code: impl.ErrRange}
	for _, n := range outside(0, big1) {
		if got := impl.RootDown(n); got != wrong {
			t.Errorf("RootDown(%d): %+v", n, got)
		}
	}
	askedTwo(t, "StopPath", impl.StopPath, speeds, loss)
	askedTwo(t, "StopTicks", impl.StopTicks, speeds, loss)
	askedTwo(t, "StopBound", impl.StopBound, speeds, loss)
	askedTwo(t, "SpeedFor", impl.SpeedFor, [2]int64{0, big1}, loss)
	places, both := [2]int64{-big1, big1}, [2]int64{-fast, fast}
	askedThree(t, "MoveOn", impl.MoveOn, places, both, both)
	askedThree(t, "BrakeOn", impl.BrakeOn, places, both, loss)
}

// Every call of chapter 1 at every triple of wide numbers: it answers, and the
// same again when other calls stood between.
func TestMotionAnswersEverywhere(t *testing.T) {
	sameTwice(t, answersEverywhere)
}

// sameTwice asks for all answers, and for all of them once more.
func sameTwice[T comparable](t *testing.T, answers func() []T) {
	t.Helper()
	first, second := answers(), answers()
	for i := range first {
		if first[i] != second[i] {
			t.Fatalf("answers %d: %+v, then %+v", i, first[i], second[i])
		}
	}
}

type motionAnswers struct {
	sum, product                           int64
	round, root, path, ticks, bound, speed impl.IntResult
	moved, braked                          impl.MoveResult
}

func answersEverywhere() []motionAnswers {
	var list []motionAnswers
	for _, a := range wideNumbers() {
		for _, b := range wideNumbers() {
			for _, c := range wideNumbers() {
				list = append(list, motionAnswers{
					impl.AddTop(a, b), impl.MulTop(a, b),
					impl.RoundUp(a, b), impl.RootDown(a), impl.StopPath(a, b),
					impl.StopTicks(a, b), impl.StopBound(a, b), impl.SpeedFor(a, b),
					impl.MoveOn(a, b, c), impl.BrakeOn(a, b, c),
				})
			}
		}
	}
	return list
}
