package cable

import (
	"rafter/api"
	"rafter/num"
	"rafter/rows"
)

// formOf has a row and a column for each joint. Its rows tell, of a number for each joint, what the bars there pull it down by: q times (its own less the other end's), added. The form of chapter 10 is each of these times the joint's number, added.
func formOf(f api.Frame, q rows.Row) []rows.Row {
	l := rows.Blank(len(f.Joints), len(f.Joints))
	for i, b := range f.Bars {
		l[b.A][b.A] = l[b.A][b.A].Plus(q[i])
		l[b.B][b.B] = l[b.B][b.B].Plus(q[i])
		l[b.A][b.B] = l[b.A][b.B].Minus(q[i])
		l[b.B][b.A] = l[b.B][b.A].Minus(q[i])
	}
	return l
}

// side is what a net has in one way, X or Y: where the joints go in one of them doesn't hang on the other.
type side struct {
	at    rows.Row // of each joint
	loads rows.Row // what they come to at each joint
	held  []bool
}

// sidesOf is X and Y.
func sidesOf(f api.Frame, l []api.Load) [2]side {
	var sides [2]side
	n := len(f.Joints)
	for way := range len(sides) {
		sides[way] = side{at: make(rows.Row, n), loads: make(rows.Row, n), held: make([]bool, n)}
	}
	x, y := sides[0], sides[1]
	for i, s := range f.Joints {
		x.at[i], y.at[i] = num.Of(s.X), num.Of(s.Y)
	}
	for _, load := range l {
		x.loads[load.Joint] = x.loads[load.Joint].Plus(num.Of(load.Way.X))
		y.loads[load.Joint] = y.loads[load.Joint].Plus(num.Of(load.Way.Y))
	}
	for _, h := range f.Holds {
		sides[h.Way-api.Along].held[h.Joint] = true
	}
	return sides
}

// settled is where the joints go, if the bars pull as form tells. Of what is held the place is known: only the others are asked for.
func (s side) settled(form []rows.Row) (rows.Row, api.Errno) {
	at, free := s.kept()
	sums := make(rows.Row, len(free))
	for i, joint := range free {
		sums[i] = s.loads[joint].Minus(form[joint].Times(at))
	}
	x, e := rows.Solve(rows.Part(form, free), len(free), sums)
	if e != api.OK {
		return nil, e
	}
	for i, joint := range free {
		at[joint] = x[i]
	}
	return at, api.OK
}

// kept is the places of the joints that are held, and 0 for the others, which are free.
func (s side) kept() (at rows.Row, free []int) {
	at = make(rows.Row, len(s.at))
	for joint := range len(s.at) {
		if s.held[joint] {
			at[joint] = s.at[joint]
		} else {
			free = append(free, joint)
		}
	}
	return at, free
}

// isEven tells whether the bars pull nowhere, where the joints are.
func isEven(form []rows.Row, sides [2]side) bool {
	for _, r := range form {
		for way := range len(sides) {
			if !r.Times(sides[way].at).IsZero() {
				return false
			}
		}
	}
	return true
}

func spots(sides [2]side) []api.Spot {
	x, y := sides[0].at.Texts(), sides[1].at.Texts()
	l := make([]api.Spot, len(x))
	for i := range len(x) {
		l[i] = api.Spot{X: x[i], Y: y[i]}
	}
	return l
}
