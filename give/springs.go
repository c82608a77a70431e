package give

import (
	"rafter/api"
	"rafter/balance"
	"rafter/num"
	"rafter/rows"
)

// spring is a bar of a frame.
type spring struct {
	puts  rows.Row // at each joint, X and Y, by a stress of 1
	stiff num.Frac
	extra num.Frac // how much it is stretched without any stress
}

// springs are the bars of a frame.
type springs []spring

func springsOf(f api.Frame) springs {
	puts := rows.Turned(balance.Of(f), len(f.Bars))
	s := make(springs, len(f.Bars))
	for i, b := range f.Bars {
		s[i] = spring{puts: puts[i], stiff: num.Of(b.C), extra: num.Of(b.E)}
	}
	return s
}

// pulls is the stress of each bar along a motion. What a bar puts at its joints pulls them together: so it works along a motion by as much as that shortens the bar.
func (s springs) pulls(motion rows.Row) rows.Row {
	r := make(rows.Row, len(s))
	for i, b := range s {
		stretched := b.puts.Times(motion).Neg()
		r[i] = b.stiff.Times(stretched.Minus(b.extra))
	}
	return r
}

// puts is what bars of these stresses put at a joint in one way.
func (s springs) puts(way int, pulls rows.Row) num.Frac {
	var sum num.Frac
	for i, b := range s {
		sum = sum.Plus(b.puts[way].Times(pulls[i]))
	}
	return sum
}

// resists is how much less the bars put in one way, if a joint is moved by 1 in another.
func (s springs) resists(way, moved int) num.Frac {
	var sum num.Frac
	for _, b := range s {
		sum = sum.Plus(b.stiff.Times(b.puts[way]).Times(b.puts[moved]))
	}
	return sum
}

// settled is the motion, moved by the holds of f as these tell, along which the bars put in all other ways what against asks for. Nothing else is unknown, so that the rows are few.
func (s springs) settled(f api.Frame, against rows.Row) (rows.Row, api.Errno) {
	motion, free := heldMotion(f)
	pulls := s.pulls(motion)
	l, sums := rows.Blank(len(free), len(free)), make(rows.Row, len(free))
	for i, way := range free {
		for k, moved := range free {
			l[i][k] = s.resists(way, moved)
		}
		sums[i] = s.puts(way, pulls).Minus(against[way])
	}
	x, e := rows.Solve(l, len(free), sums)
	if e != api.OK {
		return nil, e
	}
	for i, way := range free {
		motion[way] = x[i]
	}
	return motion, api.OK
}

// heldMotion moves what is held as the holds of f tell, and nothing else; free are the other ways.
func heldMotion(f api.Frame) (motion rows.Row, free []int) {
	motion = make(rows.Row, balance.Ways(f))
	held := make([]bool, len(motion))
	for _, h := range f.Holds {
		at := balance.Held(h)
		motion[at], held[at] = num.Of(h.By), true
	}
	for way := range len(held) {
		if !held[way] {
			free = append(free, way)
		}
	}
	return motion, free
}
