package impl

import "math/bits"

const OK = 0
const ErrForm = 1
const ErrMany = 2
const ErrRange = 3
const ErrNone = 4
const ErrText = 5
const ErrTaken = 6
const ErrBusy = 7
const ErrDown = 8
const MaxSpeed = 2000
const MaxBig = 1000000000000000

// The sides of 0, each with its top beside it. Their numbers are 0 and 1, so
// that the side of a product is the xor of the sides.
const (
	sideUp, topUp     = iota, MaxBig
	sideDown, topDown = iota, -MaxBig
)

// rootTop is above every root that is asked for, and its square still fits.
const rootTop = 1 << 25

type IntResult struct {
	Code  int64
	Value int64
}
type MoveResult struct {
	Code int64
	Pos  int64
	Vel  int64
}

func AddTop(a int64, b int64) int64 {
	if sideOf(a) != sideOf(b) {
		// Numbers of two sides cannot leave int64 together.
		sum := a + b
		return toppedOf(0, sizeOf(sum), sideOf(sum))
	}
	low, high := bits.Add64(sizeOf(a), sizeOf(b), 0)
	return toppedOf(high, low, sideOf(a))
}

func MulTop(a int64, b int64) int64 {
	high, low := bits.Mul64(sizeOf(a), sizeOf(b))
	return toppedOf(high, low, sideOf(a)^sideOf(b))
}

func RoundUp(a int64, b int64) IntResult {
	if !isWithin(a, 0, MaxBig) || !isWithin(b, 1, MaxBig) {
		return IntResult{Code: ErrRange}
	}
	return IntResult{Value: quotientUp(a, b)}
}

func RootDown(n int64) IntResult {
	if !isWithin(n, 0, MaxBig) {
		return IntResult{Code: ErrRange}
	}
	root := greatestFit(rootTop, func(r int64) bool { return r*r <= n })
	return IntResult{Value: root}
}

func StopPath(speed int64, brake int64) IntResult {
	if !canStop(speed, brake) {
		return IntResult{Code: ErrRange}
	}
	return IntResult{Value: pathToStop(speed, brake)}
}

func StopTicks(speed int64, brake int64) IntResult {
	if !canStop(speed, brake) {
		return IntResult{Code: ErrRange}
	}
	return IntResult{Value: quotientUp(speed, brake)}
}

func StopBound(speed int64, brake int64) IntResult {
	if !canStop(speed, brake) {
		return IntResult{Code: ErrRange}
	}
	return IntResult{Value: quotientUp(speed*speed, 2*brake)}
}

func MoveOn(pos int64, vel int64, acc int64) MoveResult {
	if !isWithin(pos, -MaxBig, MaxBig) || !isWithin(vel, -MaxSpeed, MaxSpeed) || !isWithin(acc, -MaxSpeed, MaxSpeed) {
		return MoveResult{Code: ErrRange}
	}
	next := max(-MaxSpeed, min(vel+acc, MaxSpeed))
	return MoveResult{Pos: pos + next, Vel: next}
}

func BrakeOn(pos int64, vel int64, brake int64) MoveResult {
	if !isWithin(pos, -MaxBig, MaxBig) || !isWithin(vel, -MaxSpeed, MaxSpeed) || !isWithin(brake, 1, MaxSpeed) {
		return MoveResult{Code: ErrRange}
	}
	size, loss := sizeOf(vel), sizeOf(brake)
	// An unsigned size has nothing below 0: it loses no more than it has.
	next := toppedOf(0, size-min(size, loss), sideOf(vel))
	return MoveResult{Pos: pos + next, Vel: next}
}

func SpeedFor(path int64, brake int64) IntResult {
	if !isWithin(path, 0, MaxBig) || !isWithin(brake, 1, MaxSpeed) {
		return IntResult{Code: ErrRange}
	}
	speed := greatestFit(MaxSpeed, func(s int64) bool { return s+pathToStop(s, brake) <= path })
	return IntResult{Value: speed}
}

func isWithin(n int64, low int64, high int64) bool {
	return low <= n && n <= high
}

// sizeOf is unsigned because the size of the least int64 is none of int64.
func sizeOf(n int64) uint64 {
	if n < 0 {
		return -uint64(n)
	}
	return uint64(n)
}

func sideOf(n int64) int64 {
	if n < 0 {
		return sideDown
	}
	return sideUp
}

// toppedOf gives a size of two words its side back, up to the top there.
func toppedOf(high uint64, low uint64, side int64) int64 {
	isOver := high != 0 || low > MaxBig
	switch {
	case isOver && side == sideDown:
		return topDown
	case isOver:
		return topUp
	case side == sideDown:
		return -int64(low)
	}
	return int64(low)
}

// quotientUp asks for a from 0 and b from 1 on, both far enough from the end
// of int64 to be added.
func quotientUp(a int64, b int64) int64 {
	return (a + b - 1) / b
}

// greatestFit takes 0 as fitting, and asks that below what fits all fits: so
// it need not ask one number after the other.
func greatestFit(top int64, fits func(int64) bool) int64 {
	low, high := int64(0), top
	for low < high {
		middle := high - (high-low)/2
		if fits(middle) {
			low = middle
		} else {
			high = middle - 1
		}
	}
	return low
}

func canStop(speed int64, brake int64) bool {
	return isWithin(speed, 0, MaxSpeed) && isWithin(brake, 1, MaxSpeed)
}

// pathToStop sums the speeds of all whole brakings at once: the last of them
// may be 0, which adds nothing.
func pathToStop(speed int64, brake int64) int64 {
	n := speed / brake
	return n*speed - brake*(n*(n+1)/2)
}
