package num

import (
	"math/bits"
	"slices"
)

// gcd is Lehmer's: most of Euclid's steps are done on the highest words alone, many at a time. What 0 and y share is y.
func gcd(x, y nat) nat {
	if compareNats(x, y) < 0 {
		x, y = y, x
	}
	if len(y) > 1 { // the steps change both
		x, y = slices.Clone(x), slices.Clone(y)
	}
	for len(y) > 1 {
		s := manySteps(x, y)
		if s.none() {
			_, rest := divideNats(x, y)
			x, y = y, rest
		} else {
			x, y = s.apply(x, y)
		}
	}
	if len(y) == 0 {
		return x
	}
	if y.isOne() {
		return y
	}
	return nat{gcdWords(y[0], restByWord(x, y[0]))}
}

func gcdWords(x, y uint64) uint64 {
	for y != 0 {
		x, y = y, x%y
	}
	return x
}

// restByWord is what is left of x over w, which isn't 0.
func restByWord(x nat, w uint64) uint64 {
	var rest uint64
	for i := len(x) - 1; i >= 0; i-- {
		_, rest = bits.Div64(rest, x[i], w)
	}
	return rest
}

// steps is what some of Euclid's steps come to: x becomes xx of x and xy of y, y becomes yx of x and yy of y.
// In each of both one of the two is added, the other subtracted; odd, the number of steps, says which.
type steps struct {
	xx, xy, yx, yy uint64
	odd            bool
}

func (s steps) none() bool { return s.xy == 0 }

// manySteps does Euclid's steps on the highest words of x and y (x isn't below y, y has two words or more) for as long as all of x and y surely go the same way (Collins).
// The last step on the words isn't sure yet, so what is answered lags one step behind them, from the start on: nextX and nextY are what it would be told next.
func manySteps(x, y nat) steps {
	a, b := highWords(x, y)
	s := steps{xx: 0, xy: 0, yx: 1, yy: 0, odd: true}
	nextX, nextY := uint64(0), uint64(1)
	for b >= nextY && a-b >= s.yy+nextY {
		q := a / b
		a, b = b, a%b
		s.xx, s.yx, nextX = s.yx, nextX, s.yx+q*nextX
		s.xy, s.yy, nextY = s.yy, nextY, s.yy+q*nextY
		s.odd = !s.odd
	}
	return s
}

// highWords is x's highest bits, as many as a word has, and y's bits at the same places.
func highWords(x, y nat) (a, b uint64) {
	n := len(x)
	by := bits.LeadingZeros64(x[n-1])
	a = x[n-1]<<by | x[n-2]>>(wordBits-by)
	b = y.word(n-1)<<by | y.word(n-2)>>(wordBits-by)
	return a, b
}

// apply leaves what becomes of x and y in their words. What Euclid's steps leave isn't longer than y: so no higher words of x count.
func (s steps) apply(x, y nat) (newX, newY nat) {
	x = x[:len(y)]
	if s.odd {
		takeFromEachOther(y, x, s.xy, s.xx, s.yx, s.yy)
		return trim(y), trim(x)
	}
	takeFromEachOther(x, y, s.xx, s.xy, s.yy, s.yx)
	return trim(x), trim(y)
}

// takeFromEachOther makes x a times x less b times y, and y c times y less d times x, where neither is below 0 or longer than both were.
func takeFromEachOther(x, y nat, a, b, c, d uint64) {
	y = y[:len(x)]
	var overA, overB, overC, overD, lackX, lackY uint64
	for i, u := range x {
		v := y[i]
		var lowA, lowB, lowC, lowD uint64
		overA, lowA = multiplyAdd(u, a, overA)
		overB, lowB = multiplyAdd(v, b, overB)
		overC, lowC = multiplyAdd(v, c, overC)
		overD, lowD = multiplyAdd(u, d, overD)
		x[i], lackX = bits.Sub64(lowA, lowB, lackX)
		y[i], lackY = bits.Sub64(lowC, lowD, lackY)
	}
}

// multiplyAdd is x times y and c more, in two words.
func multiplyAdd(x, y, c uint64) (high, low uint64) {
	high, low = bits.Mul64(x, y)
	low, carry := bits.Add64(low, c, 0)
	return high + carry, low
}
