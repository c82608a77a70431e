package give

import (
	"rafter/api"
	"rafter/balance"
	"rafter/num"
	"rafter/rows"
)

// pulls is the stress of each bar of f along a motion.
func pulls(f api.Frame, motion rows.Row) rows.Row {
	r := balance.Stretched(f, motion)
	for i, b := range f.Bars {
		r[i] = num.Of(b.C).Times(r[i].Minus(num.Of(b.E)))
	}
	return r
}

// putBy is what bars of these stresses put at each joint, X and Y.
func putBy(f api.Frame, bars rows.Row) rows.Row {
	r := make(rows.Row, balance.Ways(f))
	for way, puts := range balance.Of(f) {
		r[way] = puts[:len(bars)].Times(bars)
	}
	return r
}

// settled is the motion, moved by the holds of f as these tell, along which the bars put in all other ways what against asks for. Nothing else is unknown, so that the rows are few.
func settled(f api.Frame, against rows.Row) (rows.Row, api.Errno) {
	motion, free := heldMotion(f), balance.Free(f)
	puts, sums := putBy(f, pulls(f, motion)), make(rows.Row, len(free))
	for i, way := range free {
		sums[i] = puts[way].Minus(against[way])
	}
	x, e := rows.Solve(rows.Part(balance.Stiff(f), free), len(free), sums)
	if e != api.OK {
		return nil, e
	}
	for i, way := range free {
		motion[way] = x[i]
	}
	return motion, api.OK
}

// heldMotion moves what is held as the holds of f tell, and nothing else.
func heldMotion(f api.Frame) rows.Row {
	motion := make(rows.Row, balance.Ways(f))
	for _, h := range f.Holds {
		motion[balance.Held(h)] = num.Of(h.By)
	}
	return motion
}
