package beam

import (
	"slices"

	"rafter/api"
	"rafter/num"
	"rafter/rows"
)

// prop is a place where a beam is held, and what its rise times its Stiff, and the slope of that (of a fast one), must be there.
type prop struct {
	at          num.Frac
	fast        bool
	rise, slope num.Frac
}

// standing is the props of b, moved as they tell.
func standing(b api.Beam) []prop {
	l := make([]prop, len(b.Props))
	for i, p := range b.Props {
		l[i] = prop{at: num.Of(p.At), fast: p.Fast, rise: num.Of(p.By).Times(num.Of(b.Stiff))}
	}
	return l
}

// bent is what the rise of a beam, times its Stiff, is the sum of, and the push and the twist of each prop.
type bent struct {
	terms          []term
	pushes, twists rows.Row
}

// settled is how a beam bends under its puts: ErrNone if there is no way, ErrFree if there is more than one.
func settled(long num.Frac, props []prop, puts []term) (bent, api.Errno) {
	unknown := unknownOf(props)
	asks, sums := asksOf(long, props)
	l := rows.Blank(len(asks), len(unknown))
	for i, ask := range asks {
		for k, t := range unknown {
			l[i][k] = ask(t)
		}
		sums[i] = sums[i].Minus(sumOf(puts, ask))
	}
	x, e := rows.Solve(l, len(unknown), sums)
	if e != api.OK {
		return bent{}, e
	}
	for k := range len(unknown) {
		unknown[k].by = unknown[k].by.Times(x[k])
	}
	pushes, twists := ofEachProp(props, x[len(beginning()):])
	return bent{terms: slices.Concat(unknown, puts), pushes: pushes, twists: twists}, api.OK
}

// beginning is how high, and how steep, a beam begins: 1 of each.
func beginning() []term {
	return []term{{n: 0, by: num.Whole(1)}, {n: 1, by: num.Whole(1)}}
}

// unknownOf is 1 of all that isn't known of a beam: how it begins, then of each prop the push and, if it is fast, the twist.
func unknownOf(props []prop) []term {
	l := beginning()
	for _, p := range props {
		l = append(l, pushAt(p.at, num.Whole(1)))
		if p.fast {
			l = append(l, twistAt(p.at, num.Whole(1)))
		}
	}
	return l
}

// ofEachProp gives each prop its push and its twist, which x has in the order of unknownOf.
func ofEachProp(props []prop, x rows.Row) (pushes, twists rows.Row) {
	pushes, twists = make(rows.Row, len(props)), make(rows.Row, len(props))
	for i, p := range props {
		pushes[i], x = x[0], x[1:]
		if p.fast {
			twists[i], x = x[0], x[1:]
		}
	}
	return pushes, twists
}

// asksOf is who is asked, of each row, how much a term adds to it, and what all terms must add up to there.
func asksOf(long num.Frac, props []prop) (asks []func(t term) num.Frac, sums rows.Row) {
	demand := func(x num.Frac, times int, sum num.Frac) {
		asks = append(asks, func(t term) num.Frac { return t.slope(x, times) })
		sums = append(sums, sum)
	}
	for _, p := range props {
		demand(p.at, 0, p.rise)
		if p.fast {
			demand(p.at, 1, p.slope)
		}
	}
	// Behind all that stands on it a beam has no bending and no shear left: that is to say that all pushes add up to 0, and so do the twists and each push times its place.
	demand(long, 2, num.Frac{})
	demand(long, 3, num.Frac{})
	return asks, sums
}
