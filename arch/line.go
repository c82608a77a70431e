package arch

import (
	"iter"

	"rafter/api"
	"rafter/num"
)

// stone is one of an arch. Its shape is the height there of the one line, of a slack that all stones share, that is 0 at the first and the second stone: every line of that slack is this one with a straight one added.
type stone struct {
	at, low, high, shape num.Frac
}

// shaped are the stones of l, for lines of that slack.
func shaped(l []api.Stone, slack num.Frac) []stone {
	stones := make([]stone, len(l))
	var slope num.Frac
	for i, s := range l {
		stones[i] = stone{at: num.Of(s.At), low: num.Of(s.Low), high: num.Of(s.High)}
		if i < 2 {
			continue
		}
		ahead := stones[i-1]
		slope = slope.Minus(slack.Times(num.Of(l[i-1].Weight)))
		stones[i].shape = ahead.shape.Plus(slope.Times(stones[i].at.Minus(ahead.at)))
	}
	return stones
}

// line tells its height at a stone.
type line func(s stone) num.Frac

// through is the line that has the height u at p and v at q.
func through(p stone, u num.Frac, q stone, v num.Frac) line {
	start := u.Minus(p.shape)
	slope := v.Minus(q.shape).Minus(start).Over(q.at.Minus(p.at))
	return func(s stone) num.Frac {
		return start.Plus(slope.Times(s.at.Minus(p.at))).Plus(s.shape)
	}
}

// corners goes through the lines that touch the Low of one stone and the High of another on its right. If any line fits, one of these does, the steepest: if all Highs that it touched were left of all Lows that it touched, or at one stone with them, it could be turned around a place between, and be steeper.
func corners(l []stone) iter.Seq[line] {
	return func(yield func(line) bool) {
		for i, p := range l {
			for _, q := range l[i+1:] {
				if !yield(through(p, p.low, q, q.high)) {
					return
				}
			}
		}
	}
}

// fits: the line goes between Low and High everywhere.
func fits(l []stone, y line) bool {
	for _, s := range l {
		if h := y(s); h.Compare(s.low) < 0 || h.Compare(s.high) > 0 {
			return false
		}
	}
	return true
}

func goesAt(l []stone, y line, heights []api.Q) bool {
	for i, s := range l {
		if !y(s).Equal(num.Of(heights[i])) {
			return false
		}
	}
	return true
}

func told(l []stone, y line) []api.Q {
	heights := make([]api.Q, len(l))
	for i, s := range l {
		heights[i] = y(s).Q()
	}
	return heights
}
