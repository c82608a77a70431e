package near

import (
	"math"
	"math/bits"

	"rafter/num"
)

// How many bits a float has at most, and which power of 2 the last bit of the least ones stands for.
const (
	floatBits = 53
	leastBit  = -1074
)

// root is the nearest float to the root of x, which is above 0.
func root(x num.Frac) float64 {
	whole, by, more := x.Root()
	if more { // there are bits enough behind the float's that the last one says no more than this
		whole |= 1
	}
	return nearest(whole, by)
}

// nearest is the nearest float to whole times 2 to the power of by; whole has more bits than a float.
func nearest(whole uint64, by int) float64 {
	drop := max(bits.Len64(whole)-floatBits, leastBit-by)
	if drop > bits.Len64(whole) { // less than half of the least float
		return 0
	}
	kept, half := whole>>drop, uint64(1)<<(drop-1)
	dropped := whole & (half<<1 - 1)
	if dropped > half || dropped == half && kept&1 == 1 {
		kept++
	}
	return math.Ldexp(float64(kept), by+drop)
}
