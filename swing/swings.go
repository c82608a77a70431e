package swing

import (
	"slices"

	"rafter/api"
	"rafter/balance"
	"rafter/num"
	"rafter/rows"
)

// swings has a row and a column for each way in which a joint is free to go.
type swings struct {
	stiff []rows.Row // how much the bars push back in one way, if a joint is moved by 1 in another
	heavy rows.Row   // the mass that is moved
}

func swingsOf(f api.Frame, masses []api.Q) swings {
	free := balance.Free(f)
	s := swings{stiff: rows.Part(balance.Stiff(f), free), heavy: make(rows.Row, len(free))}
	for i, way := range free {
		s.heavy[i] = num.Of(masses[balance.Joint(way)])
	}
	return s
}

// below is how many paces squared are below w. Told by the motions that have the paces, stiffness less w times heaviness is a square for each of them, times its pace squared less w: so those below w are the squares that are subtracted.
func (s swings) below(w num.Frac) int {
	l := slices.Clone(s.stiff)
	for i, r := range l {
		l[i] = slices.Clone(r)
		l[i][i] = r[i].Minus(w.Times(s.heavy[i]))
	}
	_, minus := rows.Signs(l)
	return minus
}

// guard is how many digits, in twos, a guess takes beyond those that are asked for: so that what is lost with each number is seldom seen in what all of them come to.
const guard = 32

// guess is about how many parts of 1 go into the least pace squared, whole. No more is kept of the numbers than that takes, and what is asked of them again and again is worked out once: the product of (x + p) over all paces squared p, as a polynomial in x.
func (s swings) guess(parts num.Frac) num.Frac {
	finer := twoTo(guard)
	product := rows.Polynomial(s.back(parts.Times(finer)))
	noneBelow := func(n num.Frac) bool { return hasNoneBelow(product, n.Times(finer)) }
	return greatest(noneBelow, num.Frac{})
}

// back is how many parts of 1, whole, the bars push back a joint by in one way, over its mass, if one is moved by 1 in another. What it multiplies a motion by that has a pace is that pace squared.
func (s swings) back(parts num.Frac) []rows.Row {
	l := rows.Blank(len(s.stiff), len(s.stiff))
	for i, r := range s.stiff {
		by := parts.Over(s.heavy[i])
		for k, x := range r {
			l[i][k] = x.Times(by).Floor()
		}
	}
	return l
}

// hasNoneBelow tells, of the product of (x + p) over some numbers p, whether none of these is below w. With x - w for x it is the product of (x + (p - w)): if no p - w is below 0, no number of the polynomial is; if one is, the polynomial is 0 at an x above 0, which it couldn't be if none of its numbers were below 0.
func hasNoneBelow(product rows.Row, w num.Frac) bool {
	l := slices.Clone(product)
	for low := range len(l) {
		for k := len(l) - 2; k >= low; k-- {
			l[k] = l[k].Minus(w.Times(l[k+1]))
		}
		if l[low].Sign() < 0 {
			return false
		}
	}
	return true
}

// greatest is the greatest whole number that fits: 0 does, and all do from there to the greatest. It looks around from about, which isn't below 0: the nearer that is, the less is asked.
func greatest(fits func(n num.Frac) bool, about num.Frac) num.Frac {
	n, step := about, num.Whole(1)
	for n.Sign() > 0 && !fits(n) {
		n, step = n.Minus(step), step.Plus(step)
	}
	if n.Sign() < 0 {
		n = num.Frac{}
	}
	for fits(n.Plus(step)) {
		n, step = n.Plus(step), step.Plus(step)
	}
	for one := num.Whole(1); !step.Equal(one); {
		step = step.Over(num.Whole(2))
		if more := n.Plus(step); fits(more) {
			n = more
		}
	}
	return n
}

func twoTo(power int) num.Frac {
	n := num.Whole(1)
	for range power {
		n = n.Plus(n)
	}
	return n
}
