package arch

import (
	"iter"

	"rafter/num"
)

// slacks are all from the least to the most; if open, all from the least on.
type slacks struct {
	least, most num.Frac
	open        bool
}

// slacksOf are those that have a line, if there are any. The stones are shaped for the slack 1.
// Of a given slack the lines that fit one stone are a strip of the plane (two heights tell a line), and strips have something in common if any three of them have (Helly): so three stones at a time are enough.
func slacksOf(l []stone) (slacks, bool) {
	low := func(s stone) num.Frac { return s.low }
	high := func(s stone) num.Frac { return s.high }
	shape := func(s stone) num.Frac { return s.shape }
	r := slacks{open: true}
	for c := range threes(l) {
		need, room := above(c, low, high), above(c, high, low)
		if !r.narrow(need, room, above(c, shape, shape)) {
			return slacks{}, false
		}
	}
	return r, r.open || r.least.Compare(r.most) <= 0
}

// narrow keeps the slacks that, times by, are from need to room; no need to go on if it answers false. by isn't below 0.
func (r *slacks) narrow(need, room, by num.Frac) bool {
	if by.IsZero() {
		return need.Sign() <= 0 && room.Sign() >= 0
	}
	if least := need.Over(by); least.Compare(r.least) > 0 {
		r.least = least
	}
	if most := room.Over(by); r.open || most.Compare(r.most) < 0 {
		r.most, r.open = most, false
	}
	return true
}

// above is how far what the middle one of three stones has is above the straight line from what the left one has to what the right one has, times the way from the left one to the right one.
func above(c [3]stone, middle, outer func(stone) num.Frac) num.Frac {
	left, right := c[1].at.Minus(c[0].at), c[2].at.Minus(c[1].at)
	return middle(c[1]).Times(left.Plus(right)).Minus(outer(c[0]).Times(right)).Minus(outer(c[2]).Times(left))
}

// threes goes through all threes of stones, each from left to right.
func threes(l []stone) iter.Seq[[3]stone] {
	return func(yield func([3]stone) bool) {
		for k, right := range l {
			for j, middle := range l[:k] {
				for _, left := range l[:j] {
					if !yield([3]stone{left, middle, right}) {
						return
					}
				}
			}
		}
	}
}
