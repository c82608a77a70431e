package force

import (
	"rafter/api"
	"rafter/num"
)

// vector is a place, or a way, to reckon with.
type vector struct{ x, y num.Frac }

func vectorOf(s api.Spot) vector { return vector{x: num.Of(s.X), y: num.Of(s.Y)} }

func (v vector) spot() api.Spot { return api.Spot{X: v.x.Q(), Y: v.y.Q()} }

func (v vector) isZero() bool { return v.x.IsZero() && v.y.IsZero() }

func (v vector) equal(w vector) bool { return v.x.Equal(w.x) && v.y.Equal(w.y) }

func (v vector) plus(w vector) vector { return vector{x: v.x.Plus(w.x), y: v.y.Plus(w.y)} }

func (v vector) minus(w vector) vector { return vector{x: v.x.Minus(w.x), y: v.y.Minus(w.y)} }

func (v vector) times(f num.Frac) vector { return vector{x: v.x.Times(f), y: v.y.Times(f)} }

// cross is how the way w, at v, turns around the origin.
func (v vector) cross(w vector) num.Frac { return v.x.Times(w.y).Minus(v.y.Times(w.x)) }

func (v vector) square() num.Frac { return v.x.Times(v.x).Plus(v.y.Times(v.y)) }

// turnedBack is v, turned by a right angle from Y to X: crossed with v it is v's square.
func (v vector) turnedBack() vector { return vector{x: v.y, y: v.x.Neg()} }
