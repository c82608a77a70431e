// Package num has fractions of any length: the exact numbers that all layers reckon with.
package num

import (
	"math/bits"
	"slices"
)

// nat is a whole number from 0 on: its words, the lowest first, the highest of them not 0.
// Nats share words freely, so no function changes one that it was given.
type nat []uint64

const wordBits = 64

func natOfWord(w uint64) nat {
	if w == 0 {
		return nil
	}
	return nat{w}
}

// trim drops the noughts at the high end, without which a nat has just one form.
func trim(x nat) nat {
	n := len(x)
	for n > 0 && x[n-1] == 0 {
		n--
	}
	return x[:n]
}

func (x nat) isOne() bool { return len(x) == 1 && x[0] == 1 }

// word is 0 beyond the end, so that nats of two lengths can be gone through side by side.
func (x nat) word(i int) uint64 {
	if i < len(x) {
		return x[i]
	}
	return 0
}

func compareNats(x, y nat) int {
	if len(x) != len(y) {
		if len(x) < len(y) {
			return -1
		}
		return 1
	}
	for i := len(x) - 1; i >= 0; i-- {
		if x[i] < y[i] {
			return -1
		}
		if x[i] > y[i] {
			return 1
		}
	}
	return 0
}

func addNats(x, y nat) nat {
	n := max(len(x), len(y))
	sum := make(nat, n+1)
	var carry uint64
	for i := range n {
		sum[i], carry = bits.Add64(x.word(i), y.word(i), carry)
	}
	sum[n] = carry
	return trim(sum)
}

// subtractNats is x less y; y is at most x.
func subtractNats(x, y nat) nat {
	n := len(x)
	rest := make(nat, n)
	var borrow uint64
	for i := range n {
		rest[i], borrow = bits.Sub64(x[i], y.word(i), borrow)
	}
	return trim(rest)
}

func multiplyNats(x, y nat) nat {
	if len(x) == 0 || len(y) == 0 {
		return nil
	}
	if x.isOne() {
		return y
	}
	if y.isOne() {
		return x
	}
	product := make(nat, len(x)+len(y))
	for i, w := range x {
		product[i+len(y)] = addMultiple(product[i:i+len(y)], y, w)
	}
	return trim(product)
}

// addMultiple adds w times y to row, which is as long as y, and answers what runs over.
func addMultiple(row []uint64, y nat, w uint64) uint64 {
	row = row[:len(y)]
	var over uint64
	for i, v := range y {
		high, low := bits.Mul64(v, w)
		var carry uint64
		low, carry = bits.Add64(low, over, 0)
		high += carry
		row[i], carry = bits.Add64(row[i], low, 0)
		over = high + carry
	}
	return over
}

// takeMultiple takes w times y from row, which is as long as y, and answers what is lacking.
func takeMultiple(row []uint64, y nat, w uint64) uint64 {
	row = row[:len(y)]
	var lack uint64
	for i, v := range y {
		high, low := bits.Mul64(v, w)
		var carry uint64
		low, carry = bits.Add64(low, lack, 0)
		high += carry
		row[i], carry = bits.Sub64(row[i], low, 0)
		lack = high + carry
	}
	return lack
}

// addInto adds y to row, which is as long as y, and answers what runs over.
func addInto(row []uint64, y nat) uint64 {
	row = row[:len(y)]
	var carry uint64
	for i, v := range y {
		row[i], carry = bits.Add64(row[i], v, carry)
	}
	return carry
}

// shiftedUp is x times 2 to the power of by (below wordBits), in one word more than x has.
func shiftedUp(x nat, by int) []uint64 {
	up := make([]uint64, len(x)+1)
	for i, w := range x {
		up[i] |= w << by
		up[i+1] = w >> (wordBits - by)
	}
	return up
}

// shiftedDown is x over 2 to the power of by (below wordBits), whole.
func shiftedDown(x []uint64, by int) nat {
	down := make(nat, len(x))
	for i := range len(x) {
		down[i] = x[i]>>by | nat(x).word(i+1)<<(wordBits-by)
	}
	return trim(down)
}

// divideInPlace leaves x over w in x, and answers the rest; w isn't 0.
func divideInPlace(x []uint64, w uint64) uint64 {
	var rest uint64
	for i := len(x) - 1; i >= 0; i-- {
		x[i], rest = bits.Div64(rest, x[i], w)
	}
	return rest
}

// divideNats is Knuth's algorithm D: how often y, which isn't 0, goes into x, and what is left.
func divideNats(x, y nat) (quotient, rest nat) {
	if compareNats(x, y) < 0 {
		return nil, x
	}
	if len(y) == 1 {
		q := slices.Clone(x)
		r := divideInPlace(q, y[0])
		return trim(q), natOfWord(r)
	}
	// Guesses by the highest words are good only if y's highest bit is set.
	by := bits.LeadingZeros64(y[len(y)-1])
	left, d := shiftedUp(x, by), trim(shiftedUp(y, by))
	quotient = make(nat, len(left)-len(d))
	for i := len(quotient) - 1; i >= 0; i-- {
		quotient[i] = divideStep(left[i:i+len(d)+1], d)
	}
	return trim(quotient), shiftedDown(left[:len(d)], by)
}

// divideStep answers how often d goes into left, which is one word longer than d, and less than a word's range of d; it leaves the rest in left.
func divideStep(left []uint64, d nat) uint64 {
	n := len(d)
	q := guessQuotient(left[n], left[n-1], left[n-2], d[n-1], d[n-2])
	lack := takeMultiple(left[:n], d, q)
	top, borrow := bits.Sub64(left[n], lack, 0)
	for borrow != 0 { // the guess was too great
		q--
		var carry uint64
		top, carry = bits.Add64(top, addInto(left[:n], d), 0)
		borrow -= carry
	}
	left[n] = top
	return q
}

// guessQuotient guesses, from the three highest words of what is divided and the two highest of what it is divided by, what is never too small, and seldom too great by one.
func guessQuotient(a2, a1, a0, d1, d0 uint64) uint64 {
	if a2 >= d1 {
		return ^uint64(0)
	}
	q, rest := bits.Div64(a2, a1, d1)
	for {
		high, low := bits.Mul64(q, d0)
		if high < rest || high == rest && low <= a0 {
			return q
		}
		q--
		rest += d1
		if rest < d1 { // it ran over: the rest is now greater than any word
			return q
		}
	}
}

// quotientOf is x over y, which isn't 0, whole.
func quotientOf(x, y nat) nat {
	if y.isOne() {
		return x
	}
	q, _ := divideNats(x, y)
	return q
}
