package swing_test

import (
	"fmt"
	"math/big"
	"math/rand"
	"slices"
	"strings"
	"testing"

	"rafter/api"
	"rafter/swing"
)

// chance draws numbers, frames, masses and motions.
type chance struct {
	*rand.Rand
	digits int // how long its numbers are; 0: few and short ones, so that paces come more than once, and are fractions, often
}

func (c chance) q() api.Q {
	if c.digits == 0 {
		return told(big.NewRat(int64(c.Intn(7)-3), int64(1+c.Intn(2))))
	}
	x := new(big.Rat).SetFrac(c.long(), c.long())
	if c.Intn(2) == 0 {
		x.Neg(x)
	}
	return told(x)
}

func (c chance) long() *big.Int {
	var b strings.Builder
	b.WriteByte(byte('1' + c.Intn(9)))
	for range c.digits {
		b.WriteByte(byte('0' + c.Intn(10)))
	}
	return whole(b.String())
}

// above is a number above 0.
func (c chance) above() api.Q {
	q := api.Q(strings.TrimPrefix(string(c.q()), "-"))
	if q == "0" {
		return "1"
	}
	return q
}

// masses are at times all the same.
func (c chance) masses(f api.Frame) []api.Q {
	if c.Intn(3) == 0 {
		return slices.Repeat([]api.Q{c.above()}, len(f.Joints))
	}
	var l []api.Q
	for range f.Joints {
		l = append(l, c.above())
	}
	return l
}

// bar is one between joints at other places, if those that are drawn are.
func (c chance) bar(f api.Frame) (api.Bar, bool) {
	b := api.Bar{A: c.Intn(len(f.Joints)), B: c.Intn(len(f.Joints)), C: c.above(), E: c.q(), Least: "-1", Most: "1"}
	return b, f.Joints[b.A] != f.Joints[b.B]
}

// frame has bars, at times between the same joints twice, and holds up to a number.
func (c chance) frame(joints, bars, holds int) api.Frame {
	var f api.Frame
	for range joints {
		f.Joints = append(f.Joints, spot(c.q(), c.q()))
	}
	for range bars {
		if b, ok := c.bar(f); ok {
			f.Bars = append(f.Bars, b)
		}
	}
	for _, k := range c.Perm(2 * joints)[:c.Intn(min(holds, 2*joints)+1)] {
		f.Holds = append(f.Holds, api.Hold{Joint: k / 2, Way: api.Along + k%2, By: c.q()})
	}
	return f
}

// motion moves nothing that is held.
func (c chance) motion(f api.Frame) []api.Spot {
	m := make([]api.Spot, len(f.Joints))
	for i := range m {
		if !isHeld(f, i, api.Along) {
			m[i].X = c.q()
		}
		if !isHeld(f, i, api.Up) {
			m[i].Y = c.q()
		}
	}
	return m
}

// somewhere is numbers that may be among the paces squared: 0, what is drawn, quotients, and the ends of what is told as the least.
func (c chance) somewhere(t *testing.T, f api.Frame, masses []api.Q) list {
	t.Helper()
	l := list{new(big.Rat), read(c.q()), read(c.above())}
	for i := range f.Joints {
		for way := api.Along; way <= api.Up; way++ {
			if isHeld(f, i, way) {
				continue
			}
			m := make([]api.Spot, len(f.Joints))
			if m[i].X = "1"; way == api.Up {
				m[i] = spot("0", "1")
			}
			l = append(l, quotient(t, f, masses, m))
		}
	}
	if x := lowest(t, f, masses, 20); x != nil {
		l = append(l, x, new(big.Rat).Add(x, part(20)))
	}
	return l
}

func TestBelowOfMany(t *testing.T) {
	c := chance{Rand: rand.New(rand.NewSource(1))}
	seen := map[int]int{}
	for i := range 900 {
		joints, bars := 1+c.Intn(4), c.Intn(9)
		if i%300 == 299 {
			joints, bars = api.MaxJoints, api.MaxBars
		}
		f := c.frame(joints, bars, 2*joints)
		masses := c.masses(f)
		for _, n := range heldAgainst(t, f, masses, c.somewhere(t, f, masses)) {
			seen[n]++
		}
	}
	for n := range 6 {
		if seen[n] < 100 {
			t.Errorf("only %d times %d below", seen[n], n)
		}
	}
}

func TestLowestOfMany(t *testing.T) {
	c := chance{Rand: rand.New(rand.NewSource(2))}
	none, still, more := 0, 0, 0
	for range 1500 {
		joints := 1 + c.Intn(4)
		f := c.frame(joints, 2+c.Intn(9), 2*joints)
		switch x := lowest(t, f, c.masses(f), c.Intn(api.MaxDigits+1)); {
		case x == nil:
			none++
		case x.Sign() == 0:
			still++
		default:
			more++
		}
	}
	if none < 50 || still < 200 || more < 200 {
		t.Errorf("%d, %d, %d", none, still, more)
	}
}

// No Quotient is below the least pace squared; so some pace squared is below whatever is above one.
func TestNoQuotientBelowTheLeast(t *testing.T) {
	c := chance{Rand: rand.New(rand.NewSource(3))}
	e, seen := read(tiny), 0
	for range 500 {
		joints := 1 + c.Intn(4)
		f := c.frame(joints, 3+c.Intn(12), 2*joints-1)
		masses := c.masses(f)
		least := lowest(t, f, masses, api.MaxDigits)
		for range 5 {
			m := c.motion(f)
			if heavy(masses, flat(m)).Sign() == 0 {
				notMoved(t, "nothing moves", f, masses, m, fault(api.ErrNone, 0))
				continue
			}
			q := quotient(t, f, masses, m)
			if q.Cmp(least) < 0 {
				t.Fatalf("%v %v: %v: %v, least is %v", f, masses, m, q, least)
			}
			if n, g := swing.Below(f, masses, told(q.Add(q, e))); n == 0 || g != (api.Fault{}) {
				t.Fatalf("%v %v: %v: none is below %v: %v", f, masses, m, q, g)
			}
			if least.Sign() > 0 {
				seen++
			}
		}
	}
	if seen < 300 {
		t.Errorf("only %d times above 0", seen)
	}
}

// counted is what Below tells of a number.
func counted(t *testing.T, f api.Frame, masses []api.Q, w *big.Rat) int {
	t.Helper()
	n, g := swing.Below(f, masses, told(w))
	if g != (api.Fault{}) {
		t.Fatalf("%v %v: %v", f, masses, g)
	}
	return n
}

func TestOneBarMore(t *testing.T) {
	c := chance{Rand: rand.New(rand.NewSource(4))}
	seen := map[int]int{}
	for range 150 {
		joints := 2 + c.Intn(4)
		f := c.frame(joints, c.Intn(12), joints)
		b, ok := c.bar(f)
		if !ok {
			continue
		}
		masses, more := c.masses(f), f
		more.Bars = append(slices.Clone(f.Bars), b)
		for _, w := range append(c.somewhere(t, f, masses), c.somewhere(t, more, masses)...) {
			less := counted(t, f, masses, w) - counted(t, more, masses, w)
			if less < 0 || less > 1 {
				t.Fatalf("%v %v: with %v, below %v: %d less", f, masses, b, w, less)
			}
			seen[less]++
		}
		if lowest(t, f, masses, 20).Cmp(lowest(t, more, masses, 20)) > 0 {
			t.Fatalf("%v %v: with %v the least is less", f, masses, b)
		}
	}
	if seen[0] < 300 || seen[1] < 300 {
		t.Errorf("%v", seen)
	}
}

func TestOneHoldMore(t *testing.T) {
	c := chance{Rand: rand.New(rand.NewSource(5))}
	seen := map[int]int{}
	for range 150 {
		joints := 2 + c.Intn(4)
		f := c.frame(joints, c.Intn(12), joints)
		free := freeWays(f)
		at := free[c.Intn(len(free))]
		masses, more := c.masses(f), f
		more.Holds = append(slices.Clone(f.Holds), api.Hold{Joint: at / 2, Way: api.Along + at%2, By: c.q()})
		for _, w := range append(c.somewhere(t, f, masses), c.somewhere(t, more, masses)...) {
			less := counted(t, f, masses, w) - counted(t, more, masses, w)
			if less < 0 || less > 1 {
				t.Fatalf("%v %v: held in %d, below %v: %d less", f, masses, at, w, less)
			}
			seen[less]++
		}
		if x := lowest(t, more, masses, 20); x != nil && x.Cmp(lowest(t, f, masses, 20)) < 0 {
			t.Fatalf("%v %v: held in %d the least is less", f, masses, at)
		}
	}
	if seen[0] < 300 || seen[1] < 300 {
		t.Errorf("%v", seen)
	}
}

// mixed is the same frame, told in another order: joints, bars, the ends of bars, and holds.
func (c chance) mixed(f api.Frame, masses []api.Q) (api.Frame, []api.Q) {
	to := c.Perm(len(f.Joints))
	g, l := api.Frame{Joints: make([]api.Spot, len(to))}, make([]api.Q, len(to))
	for i, s := range f.Joints {
		g.Joints[to[i]], l[to[i]] = s, masses[i]
	}
	for _, i := range c.Perm(len(f.Bars)) {
		b := f.Bars[i]
		b.A, b.B = to[b.A], to[b.B]
		if c.Intn(2) == 0 {
			b.A, b.B = b.B, b.A
		}
		g.Bars = append(g.Bars, b)
	}
	for _, i := range c.Perm(len(f.Holds)) {
		h := f.Holds[i]
		h.Joint = to[h.Joint]
		g.Holds = append(g.Holds, h)
	}
	return g, l
}

// In whatever order it is told, wherever it lies, X for Y or not: it swings as it did.
func TestInAnyOrder(t *testing.T) {
	c := chance{Rand: rand.New(rand.NewSource(6))}
	for range 150 {
		joints := 1 + c.Intn(5)
		f := c.frame(joints, c.Intn(14), joints)
		masses := c.masses(f)
		g, l := c.mixed(f, masses)
		x, y := read(c.q()), read(c.q())
		for i, s := range g.Joints {
			g.Joints[i] = spot(told(new(big.Rat).Add(y, read(s.Y))), told(x.Sub(x, read(s.X)))) // turned by a right angle
			x.Add(x, read(s.X))
		}
		for i := range g.Holds {
			g.Holds[i].Way = api.Along + api.Up - g.Holds[i].Way
		}
		for _, w := range c.somewhere(t, f, masses) {
			if a, b := counted(t, f, masses, w), counted(t, g, l, w); a != b {
				t.Fatalf("%v %v: below %v: %d, mixed %d", f, masses, w, a, b)
			}
		}
		a, _ := swing.Lowest(f, masses, 40)
		if b, _ := swing.Lowest(g, l, 40); a != b {
			t.Fatalf("%v %v: least is %s, mixed %s", f, masses, a, b)
		}
	}
}

// Stiffer by a number, all of it, or lighter by it: each pace squared is greater by that. Places twice as far apart: by four.
func TestByHowMuchAllIsChanged(t *testing.T) {
	c := chance{Rand: rand.New(rand.NewSource(7))}
	for range 150 {
		joints := 1 + c.Intn(5)
		f := c.frame(joints, c.Intn(14), joints)
		masses, by := c.masses(f), read(c.above())
		stiffer, light, wide := f, slices.Clone(masses), f
		stiffer.Bars, wide.Joints = slices.Clone(f.Bars), slices.Clone(f.Joints)
		for i, b := range f.Bars {
			stiffer.Bars[i].C = told(new(big.Rat).Mul(by, read(b.C)))
		}
		for i, m := range masses {
			light[i] = told(new(big.Rat).Quo(read(m), by))
		}
		for i, s := range f.Joints {
			wide.Joints[i] = spot(told(new(big.Rat).Mul(by, read(s.X))), told(new(big.Rat).Mul(by, read(s.Y))))
		}
		for _, w := range c.somewhere(t, f, masses) {
			once := new(big.Rat).Mul(w, by)
			twice := new(big.Rat).Mul(once, by)
			got := fmt.Sprint(counted(t, stiffer, masses, once), counted(t, f, light, once), counted(t, wide, masses, twice))
			if n := counted(t, f, masses, w); got != fmt.Sprint(n, n, n) {
				t.Fatalf("%v %v: below %v: %d, by %v: %s", f, masses, w, n, by, got)
			}
		}
	}
}

// Frames beside each other have the paces of both.
func TestBeside(t *testing.T) {
	c := chance{Rand: rand.New(rand.NewSource(8))}
	for range 150 {
		f, g := c.frame(1+c.Intn(4), c.Intn(9), 3), c.frame(1+c.Intn(4), c.Intn(9), 3)
		l, m := c.masses(f), c.masses(g)
		both := api.Frame{Joints: slices.Concat(f.Joints, g.Joints), Bars: slices.Clone(f.Bars), Holds: slices.Clone(f.Holds)}
		for _, b := range g.Bars {
			b.A, b.B = b.A+len(f.Joints), b.B+len(f.Joints)
			both.Bars = append(both.Bars, b)
		}
		for _, h := range g.Holds {
			h.Joint += len(f.Joints)
			both.Holds = append(both.Holds, h)
		}
		for _, w := range append(c.somewhere(t, f, l), c.somewhere(t, g, m)...) {
			if n, a, b := counted(t, both, slices.Concat(l, m), w), counted(t, f, l, w), counted(t, g, m, w); n != a+b {
				t.Fatalf("%v %v, %v %v: below %v: %d, each %d and %d", f, l, g, m, w, n, a, b)
			}
		}
	}
}
