package beam

import (
	"rafter/api"
	"rafter/num"
)

// By Betti's law, what a push of 1 at x makes a prop push is the opposite of how far the beam rises at x when that prop rises by 1; so of a fast one's twist when the beam is turned there.
// The shear and the bending left of a place are what all that isn't left of it comes to, or the opposite of that: so what stands there is moved at once, straight down by 1, or turned by 1 around the place.

// gapOf is how all that isn't left of the wish's place is moved, if the beam gives way there and stays straight. It is also what the push of 1 itself adds to what is asked. Of a prop's push there is none.
func gapOf(w api.Wish) []term {
	at := num.Of(w.At)
	switch w.Kind {
	case api.Shear:
		return []term{{at: at, n: 0, by: num.Whole(-1)}}
	case api.Bend:
		return []term{{at: at, n: 1, by: num.Whole(1)}}
	default:
		return nil
	}
}

// givingWay is the props of b where the wish moves them: along with the gap, or, if the push of one is asked, that one up by 1.
func givingWay(b api.Beam, w api.Wish, gap []term) []prop {
	l := make([]prop, len(b.Props))
	for i, p := range b.Props {
		at := num.Of(p.At)
		moved := func(times int) num.Frac {
			return sumOf(gap, func(t term) num.Frac { return t.slope(at, times) })
		}
		l[i] = prop{at: at, fast: p.Fast, rise: moved(0), slope: moved(1)}
		if w.Kind == api.Push && w.N == i {
			l[i].rise = num.Whole(1)
		}
	}
	return l
}
