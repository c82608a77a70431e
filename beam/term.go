package beam

import (
	"slices"

	"rafter/api"
	"rafter/num"
	"rafter/rows"
)

// term is a function: from at on it is by times (the place less at) to the power of n, over n's factorial; left of at it is 0. Its slope is such a term again, with n one less.
// The rise of a beam, times its Stiff, is a sum of terms: n is 3 for a push, 2 for a twist, and 4 for an even load, which ends where an opposite one begins.
type term struct {
	at num.Frac
	n  int
	by num.Frac
}

// mostDegree is the greatest n of all terms: that of even loads.
const mostDegree = 4

func pushAt(at, by num.Frac) term { return term{at: at, n: 3, by: by} }

// twistAt: twists are taken from the bending.
func twistAt(at, by num.Frac) term { return term{at: at, n: 2, by: by.Neg()} }

func evenFrom(at, by num.Frac) term { return term{at: at, n: 4, by: by} }

// putsOf is what the puts of b, which is right, add to its rise times its Stiff.
func putsOf(b api.Beam) []term {
	var l []term
	for _, p := range b.Puts {
		at, by := num.Of(p.At), num.Of(p.P)
		switch p.Kind {
		case api.Point:
			l = append(l, pushAt(at, by))
		case api.Twist:
			l = append(l, twistAt(at, by))
		default:
			l = append(l, evenFrom(at, by), evenFrom(num.Of(p.To), by.Neg()))
		}
	}
	return l
}

// slope is t at x, or its slope there, or the slope of that, and so on: as many times as is told. Where t begins it counts already.
func (t term) slope(x num.Frac, times int) num.Frac {
	if x.Compare(t.at) < 0 {
		return num.Frac{}
	}
	return t.power(x, times)
}

// power is slope, if t weren't 0 left of where it begins, but the same power as right of it.
func (t term) power(x num.Frac, times int) num.Frac {
	if times > t.n {
		return num.Frac{}
	}
	far, v := x.Minus(t.at), t.by
	for k := range t.n - times {
		v = v.Times(far).Over(num.Whole(k + 1))
	}
	return v
}

// sumOf is what ask tells of each term, added.
func sumOf(l []term, ask func(t term) num.Frac) num.Frac {
	var sum num.Frac
	for _, t := range l {
		sum = sum.Plus(ask(t))
	}
	return sum
}

func scaled(l []term, by num.Frac) []term {
	out := slices.Clone(l)
	for i := range len(out) {
		out[i].by = out[i].by.Times(by)
	}
	return out
}

// pieces tells the sum of terms from 0 to long. A piece ends wherever a term begins, even one that adds nothing: so at each prop and put.
func pieces(long num.Frac, terms []term) []api.Piece {
	places := placesOf(long, terms)
	l := make([]api.Piece, len(places)-1)
	sum := make(rows.Row, mostDegree+1)
	for i := range len(l) {
		for _, t := range terms {
			if t.at.Equal(places[i]) {
				t.addTo(sum)
			}
		}
		l[i] = api.Piece{From: places[i].Q(), To: places[i+1].Q(), P: withoutNoughts(sum).Texts()}
	}
	return l
}

// placesOf is 0, long, and where terms begin: from left to right, each once.
func placesOf(long num.Frac, terms []term) []num.Frac {
	l := []num.Frac{{}, long}
	for _, t := range terms {
		l = append(l, t.at)
	}
	slices.SortFunc(l, num.Frac.Compare)
	return slices.CompactFunc(l, num.Frac.Equal)
}

// addTo adds the power of t to the numbers of a polynomial: each of them is one of its slopes at 0, over a factorial (Taylor).
func (t term) addTo(sum rows.Row) {
	factorial := num.Whole(1)
	for k := range t.n + 1 {
		sum[k] = sum[k].Plus(t.power(num.Frac{}, k).Over(factorial))
		factorial = factorial.Times(num.Whole(k + 1))
	}
}

// withoutNoughts is p without those at its end.
func withoutNoughts(p rows.Row) rows.Row {
	n := len(p)
	for n > 0 && p[n-1].IsZero() {
		n--
	}
	return p[:n]
}
