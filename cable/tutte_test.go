package cable_test

import (
	"math/big"
	"math/rand"
	"slices"
	"testing"

	"rafter/api"
	"rafter/cable"
)

// within tells whether a joint is, in one way, beyond all its neighbours in neither direction.
func within(f api.Frame, at []pair, joint, way int) bool {
	below, above := false, false
	for _, b := range f.Bars {
		if b.A != joint && b.B != joint {
			continue
		}
		c := at[b.A+b.B-joint][way].Cmp(at[joint][way])
		below, above = below || c <= 0, above || c >= 0
	}
	return below && above
}

// Where all q are above 0, and there are no loads, no joint that is moved lies beyond all its neighbours. (P10.3)
func TestTutte(t *testing.T) {
	c := chance{Rand: rand.New(rand.NewSource(7))}
	moved, beyond := [2]int{}, 0
	for range 1500 {
		joints := 2 + c.Intn(api.MaxJoints-1)
		f := c.frame(joints, 2+c.Intn(api.MaxBars-1), 2*joints)
		q := many(len(f.Bars), c.above)
		if heldAgainst(t, f, q, nil) != (api.Fault{}) {
			continue
		}
		s, _ := cable.Shape(f, q, nil)
		before, after := pairs(f.Joints), pairs(s)
		for joint := range f.Joints {
			for way := range 2 {
				if isHeld(f, joint, way) {
					continue
				}
				if !within(f, after, joint, way) {
					t.Fatalf("%v %v: %v: joint %d lies beyond", f, q, s, joint)
				}
				if before[joint][way].Cmp(after[joint][way]) != 0 {
					moved[way]++
				}
				if !within(f, before, joint, way) {
					beyond++
				}
			}
		}
	}
	if moved[0] < 300 || moved[1] < 300 || beyond < 300 {
		t.Errorf("%v are moved, %d were beyond", moved, beyond)
	}
}

// turn is how p, q, r turn: twice what they have between them.
func turn(p, q, r pair) *big.Rat {
	x := new(big.Rat).Mul(new(big.Rat).Sub(q[0], p[0]), new(big.Rat).Sub(r[1], p[1]))
	y := new(big.Rat).Mul(new(big.Rat).Sub(q[1], p[1]), new(big.Rat).Sub(r[0], p[0]))
	return x.Sub(x, y)
}

// weights of four places, which add up to 0, and so do the places, each times its weight.
func weights(p []pair) list {
	w := list{turn(p[1], p[2], p[3]), turn(p[0], p[2], p[3]), turn(p[0], p[1], p[3]), turn(p[0], p[1], p[2])}
	w[1].Neg(w[1])
	w[3].Neg(w[3])
	return w
}

// netOf has joints that no three of are in a line, and, of each four neighbours, the square of their weights' sum, times a number, in the q of its bars: the square of a sum whose weights add up to 0 is a sum of squares of differences.
func (c chance) netOf(joints int, times []int64) (f api.Frame, q []api.Q) {
	for i := range joints { // on a parabola
		x := int64(3*i + c.Intn(3))
		f.Joints = append(f.Joints, spot(told(big.NewRat(x, 2)), told(big.NewRat(x*x, 3))))
	}
	sums := map[[2]int]*big.Rat{}
	for k, by := range times {
		w := weights(pairs(f.Joints[k : k+4]))
		for b := range 4 {
			for a := range b {
				if sums[[2]int{k + a, k + b}] == nil {
					sums[[2]int{k + a, k + b}] = new(big.Rat)
				}
				x := new(big.Rat).Mul(w[a], w[b])
				sums[[2]int{k + a, k + b}].Sub(sums[[2]int{k + a, k + b}], x.Mul(x, big.NewRat(by, 1)))
			}
		}
	}
	for b := range joints {
		for a := range b {
			if sum := sums[[2]int{a, b}]; sum != nil {
				f.Bars, q = append(f.Bars, api.Bar{A: a, B: b, C: "1"}), append(q, told(sum))
			}
		}
	}
	return f, q
}

// lengths is the sum of each bar's q times its length's square, if the joints are at these places.
func lengths(f api.Frame, q []api.Q, at []pair) *big.Rat {
	sum := new(big.Rat)
	for way := range 2 {
		var x list
		for _, p := range at {
			x = append(x, p[way])
		}
		sum.Add(sum, formed(f, q, x))
	}
	return sum
}

// Nets that are even, of as many squares as they were made of, added and subtracted.
func TestFirmOfSquares(t *testing.T) {
	c := chance{Rand: rand.New(rand.NewSource(8))}
	for range 200 {
		joints := 4 + c.Intn(6)
		times := make([]int64, joints-3)
		plus, minus := 0, 0
		for k := range times {
			times[k] = int64(c.Intn(5) - 2)
			if times[k] > 0 {
				plus++
			} else if times[k] < 0 {
				minus++
			}
		}
		f, q := c.netOf(joints, times)
		if len(f.Bars) > api.MaxBars {
			t.Fatalf("%d bars", len(f.Bars))
		}
		f, q = c.mixed(f, q)
		if even, a, b, g := cable.Firm(f, q); !even || a != plus || b != minus || g != (api.Fault{}) {
			t.Fatalf("%v %v: %v %d %d %v, want %d %d", f, q, even, a, b, g, plus, minus)
		}
		staysWhereItIs(t, c, f, q)
	}
}

// staysWhereItIs: an even frame has one shape that is known, its own; so if there is just one, it's that.
func staysWhereItIs(t *testing.T, c chance, f api.Frame, q []api.Q) {
	t.Helper()
	for _, k := range c.Perm(2 * len(f.Joints))[:c.Intn(2*len(f.Joints)+1)] {
		f.Holds = append(f.Holds, api.Hold{Joint: k / 2, Way: api.Along + k%2, By: "3"})
	}
	g := heldAgainst(t, f, q, nil)
	if g.Code == api.ErrNone {
		t.Fatalf("%v %v: %v", f, q, g)
	}
	if s, _ := cable.Shape(f, q, nil); g.Code == api.OK && !slices.Equal(s, f.Joints) {
		t.Fatalf("%v %v: %v", f, q, s)
	}
}

// Where minus is 0 the sum of q times the length's square isn't below 0, wherever the joints are, and is 0 where a frame is even. (P10.3)
func TestLengthsWhereMinusIsNone(t *testing.T) {
	c := chance{Rand: rand.New(rand.NewSource(9))}
	evens, below, struts := 0, 0, 0 // below: that it can be, where minus isn't 0
	for i := range 400 {
		joints := 4 + c.Intn(4)
		f, q := c.netOf(joints, many64(joints-3, func() int64 { return int64(c.Intn(3)) }))
		if i%2 == 0 { // not even any more, but for bars of 0
			at := c.Intn(len(q))
			q[at] = told(new(big.Rat).Add(read(q[at]), read(c.q())))
		}
		even, _, minus, _ := cable.Firm(f, q)
		if even {
			evens++
			if x := lengths(f, q, pairs(f.Joints)); x.Sign() != 0 {
				t.Fatalf("%v %v: even, but %v", f, q, x)
			}
		}
		if slices.ContainsFunc(q, func(x api.Q) bool { return x[0] == '-' }) && minus == 0 {
			struts++
		}
		for range 20 {
			at := make([]pair, joints)
			for j := range at {
				at[j] = pair{read(c.q()), read(c.q())}
			}
			if x := lengths(f, q, at); x.Sign() < 0 && minus == 0 {
				t.Fatalf("%v %v: at %v it is %v", f, q, at, x)
			} else if x.Sign() < 0 {
				below++
			}
		}
	}
	if evens < 100 || below < 50 || struts < 100 {
		t.Errorf("%d are even, %d are below 0, %d push without any minus", evens, below, struts)
	}
}

func many64(n int, draw func() int64) []int64 {
	var l []int64
	for range n {
		l = append(l, draw())
	}
	return l
}
