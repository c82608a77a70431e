// Package balance has what bars and holds of a frame put at its joints, as fractions in rows, and what is told of these.
package balance

import (
	"rafter/api"
	"rafter/num"
	"rafter/rows"
)

// Parts is how many bars and holds f has: bars, then holds, are the columns of its balance.
func Parts(f api.Frame) int { return len(f.Bars) + len(f.Holds) }

// Ways is how many ways its joints can go: X and Y of each joint are the rows.
func Ways(f api.Frame) int { return 2 * len(f.Joints) }

func rowOfX(joint int) int { return 2 * joint }

func rowOfY(joint int) int { return 2*joint + 1 }

// Joint is the joint of a row.
func Joint(row int) int { return row / 2 }

// Held is the row of the joint, and the way, that h holds.
func Held(h api.Hold) int {
	if h.Way == api.Along {
		return rowOfX(h.Joint)
	}
	return rowOfY(h.Joint)
}

// Way is the way of a bar of f, from its A to its B.
func Way(f api.Frame, b api.Bar) (x, y num.Frac) {
	from, to := f.Joints[b.A], f.Joints[b.B]
	return num.Of(to.X).Minus(num.Of(from.X)), num.Of(to.Y).Minus(num.Of(from.Y))
}

// Of tells how much each bar and hold of f, which is right, puts at each joint by a stress of 1.
func Of(f api.Frame) []rows.Row {
	l := rows.Blank(Ways(f), Parts(f))
	for i, b := range f.Bars {
		x, y := Way(f, b)
		l[rowOfX(b.A)][i], l[rowOfX(b.B)][i] = x, x.Neg()
		l[rowOfY(b.A)][i], l[rowOfY(b.B)][i] = y, y.Neg()
	}
	for i, h := range f.Holds {
		l[Held(h)][len(f.Bars)+i] = num.Of("1")
	}
	return l
}

// Free is the ways, as rows, in which no hold of f holds a joint.
func Free(f api.Frame) []int {
	held := make([]bool, Ways(f))
	for _, h := range f.Holds {
		held[Held(h)] = true
	}
	var free []int
	for way := range len(held) {
		if !held[way] {
			free = append(free, way)
		}
	}
	return free
}

// Stretched is how much a motion, a row of X and Y of each joint, stretches each bar of f.
func Stretched(f api.Frame, motion rows.Row) rows.Row {
	r := make(rows.Row, len(f.Bars))
	for i, b := range f.Bars {
		x, y := Way(f, b)
		apartX := motion[rowOfX(b.B)].Minus(motion[rowOfX(b.A)])
		apartY := motion[rowOfY(b.B)].Minus(motion[rowOfY(b.A)])
		r[i] = x.Times(apartX).Plus(y.Times(apartY))
	}
	return r
}

// Stiff has a row and a column for each way of the joints of f: how much the bars push back in one, if a joint is moved by 1 in another.
func Stiff(f api.Frame) []rows.Row {
	l := rows.Blank(Ways(f), Ways(f))
	for i, puts := range rows.Turned(Of(f), len(f.Bars)) {
		c := num.Of(f.Bars[i].C)
		for way, put := range puts {
			if !put.IsZero() {
				l[way] = l[way].Less(puts, c.Times(put).Neg())
			}
		}
	}
	return l
}

// Against is what bars and holds must put at each joint so that with the loads it adds up to 0.
func Against(f api.Frame, l []api.Load) rows.Row {
	r := make(rows.Row, Ways(f))
	for i := range len(l) {
		x, y := rowOfX(l[i].Joint), rowOfY(l[i].Joint)
		r[x] = r[x].Minus(num.Of(l[i].Way.X))
		r[y] = r[y].Minus(num.Of(l[i].Way.Y))
	}
	return r
}

// Stress has two lists of their own, not two pieces of one.
func Stress(f api.Frame, r rows.Row) api.Stress {
	n := len(f.Bars)
	return api.Stress{Bars: r[:n].Texts(), Holds: r[n:].Texts()}
}

// Motion tells a row that has X and Y of each joint.
func Motion(r rows.Row) []api.Spot {
	l := make([]api.Spot, len(r)/2)
	for i := range len(l) {
		l[i] = api.Spot{X: r[rowOfX(i)].Q(), Y: r[rowOfY(i)].Q()}
	}
	return l
}

// RowOf reads a motion of the joints into such a row.
func RowOf(motion []api.Spot) rows.Row {
	r := make(rows.Row, 2*len(motion))
	for i := range len(motion) {
		r[rowOfX(i)], r[rowOfY(i)] = num.Of(motion[i].X), num.Of(motion[i].Y)
	}
	return r
}
