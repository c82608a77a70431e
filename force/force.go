// Package force has forces, and what they come to: see doc/01-force.md.
package force

import (
	"rafter/api"
	"rafter/num"
)

// Total is the sum of the ways of l, and of how they turn around about.
func Total(l []api.Force, about api.Spot) (way api.Spot, turn api.Q, e api.Errno) {
	if len(l) > api.MaxForces {
		return api.Spot{}, "", api.ErrMany
	}
	t := totalAround(l, vectorOf(about))
	return t.way.spot(), t.turn.Q(), api.OK
}

// Sum is what the forces of l come to.
func Sum(l []api.Force) (api.Sum, api.Errno) {
	if len(l) > api.MaxForces {
		return api.Sum{}, api.ErrMany
	}
	t := totalAround(l, vector{})
	return api.Sum{Kind: t.kind(), Way: t.way.spot(), Turn: t.turn.Q(), At: t.nearest().spot()}, api.OK
}

// Alike tells whether a and b have one sum of ways, and turn alike around the origin.
func Alike(a, b []api.Force) (bool, api.Errno) {
	if len(a) > api.MaxForces || len(b) > api.MaxForces {
		return false, api.ErrMany
	}
	s, t := totalAround(a, vector{}), totalAround(b, vector{})
	return s.way.equal(t.way) && s.turn.Equal(t.turn), api.OK
}

// total is what forces come to around a place: the sum of their ways, and how they turn around it.
type total struct {
	way  vector
	turn num.Frac
}

func totalAround(l []api.Force, about vector) total {
	var t total
	for i := range len(l) {
		at, way := vectorOf(l[i].At), vectorOf(l[i].Way)
		t.way = t.way.plus(way)
		t.turn = t.turn.Plus(at.minus(about).cross(way))
	}
	return t
}

func (t total) kind() int {
	if !t.way.isZero() {
		return api.Single
	}
	if !t.turn.IsZero() {
		return api.Couple
	}
	return api.Rest
}

// nearest is the place on the line of a Single that is nearest to the origin: at right angles to the way, and as far out as the turn asks. Without a way there is no line: it is the origin then.
func (t total) nearest() vector {
	if t.way.isZero() {
		return vector{}
	}
	return t.way.turnedBack().times(t.turn.Over(t.way.square()))
}
