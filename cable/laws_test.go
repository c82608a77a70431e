package cable_test

import (
	"fmt"
	"math/big"
	"math/rand"
	"slices"
	"strings"
	"testing"

	"rafter/api"
	"rafter/cable"
)

// chance draws numbers, frames and loads.
type chance struct {
	*rand.Rand
	digits int // how long its numbers are; 0: few and short ones, so that much of what is drawn hangs together
}

func (c chance) q() api.Q {
	if c.digits == 0 {
		return told(big.NewRat(int64(c.Intn(7)-3), int64(1+c.Intn(2))))
	}
	x := new(big.Rat).SetFrac(c.long(), c.long())
	if c.Intn(2) == 0 {
		x.Neg(x)
	}
	return told(x)
}

func (c chance) long() *big.Int {
	var b strings.Builder
	b.WriteByte(byte('1' + c.Intn(9)))
	for range c.digits {
		b.WriteByte(byte('0' + c.Intn(10)))
	}
	return whole(b.String())
}

// above is a number above 0.
func (c chance) above() api.Q {
	q := api.Q(strings.TrimPrefix(string(c.q()), "-"))
	if q == "0" {
		return "1"
	}
	return q
}

func many(n int, draw func() api.Q) []api.Q {
	var l []api.Q
	for range n {
		l = append(l, draw())
	}
	return l
}

// frame has bars between joints at other places, at times the same twice, and holds up to a number.
func (c chance) frame(joints, bars, holds int) api.Frame {
	var f api.Frame
	for range joints {
		f.Joints = append(f.Joints, spot(c.q(), c.q()))
	}
	for range bars {
		b := api.Bar{A: c.Intn(joints), B: c.Intn(joints), C: "1"}
		if f.Joints[b.A] != f.Joints[b.B] {
			f.Bars = append(f.Bars, b)
		}
	}
	for _, k := range c.Perm(2 * joints)[:c.Intn(min(holds, 2*joints)+1)] {
		f.Holds = append(f.Holds, api.Hold{Joint: k / 2, Way: api.Along + k%2, By: c.q()})
	}
	return f
}

func (c chance) loads(f api.Frame) []api.Load {
	var l []api.Load
	for range c.Intn(4) {
		l = append(l, load(c.Intn(len(f.Joints)), c.q(), c.q()))
	}
	return l
}

func TestShapeOfMany(t *testing.T) {
	c := chance{Rand: rand.New(rand.NewSource(1))}
	seen := map[api.Fault]int{}
	for i := range 6000 {
		joints, bars := 1+c.Intn(5), c.Intn(12)
		if i%50 == 0 {
			joints, bars = api.MaxJoints, api.MaxBars
		}
		f := c.frame(joints, bars, 2*joints)
		draw := c.q
		if i%2 == 0 {
			draw = c.above
		}
		seen[heldAgainst(t, f, many(len(f.Bars), draw), c.loads(f))]++
	}
	for _, g := range []api.Fault{{}, fault(api.ErrNone, 0), fault(api.ErrNone, 1), fault(api.ErrFree, 0), fault(api.ErrFree, 1)} {
		if seen[g] < 200 {
			t.Errorf("only %d of %v", seen[g], g)
		}
	}
	if len(seen) != 5 {
		t.Errorf("%v", seen)
	}
}

func TestFirmOfMany(t *testing.T) {
	c := chance{Rand: rand.New(rand.NewSource(2))}
	seen := map[string]int{}
	for i := range 3000 {
		joints, bars := 1+c.Intn(6), c.Intn(15)
		if i%50 == 0 {
			joints, bars = api.MaxJoints, api.MaxBars
		}
		f := c.frame(joints, bars, 3)
		seen[firm(t, f, many(len(f.Bars), c.q))]++
	}
	for _, what := range []string{"true 0 0", "false 1 0", "false 0 1", "false 1 1", "false 2 1", "false 1 2", "false 2 2", "false 3 2", "false 2 3"} {
		if seen[what] < 20 {
			t.Errorf("only %d of %s", seen[what], what)
		}
	}
}

// mixed is the same frame, told in another order: joints, bars and the ends of bars.
func (c chance) mixed(f api.Frame, q []api.Q) (api.Frame, []api.Q) {
	to := c.Perm(len(f.Joints))
	g := api.Frame{Joints: make([]api.Spot, len(f.Joints))}
	for i, s := range f.Joints {
		g.Joints[to[i]] = s
	}
	var p []api.Q
	for _, i := range c.Perm(len(f.Bars)) {
		b := f.Bars[i]
		b.A, b.B = to[b.A], to[b.B]
		if c.Intn(2) == 0 {
			b.A, b.B = b.B, b.A
		}
		g.Bars, p = append(g.Bars, b), append(p, q[i])
	}
	return g, p
}

func scaled(q []api.Q, by *big.Rat) []api.Q {
	var l []api.Q
	for _, x := range q {
		l = append(l, told(new(big.Rat).Mul(read(x), by)))
	}
	return l
}

// In whatever order it is told, and however great all q are together, Firm tells the same; all q the other way, plus and minus trade places.
func TestFirmInAnyOrder(t *testing.T) {
	c := chance{Rand: rand.New(rand.NewSource(3))}
	for range 600 {
		f := c.frame(1+c.Intn(api.MaxJoints), c.Intn(api.MaxBars+1), 0)
		q := many(len(f.Bars), c.q)
		even, plus, minus, _ := cable.Firm(f, q)
		want := fmt.Sprint(even, plus, minus, api.Fault{})
		for range 4 {
			g, p := c.mixed(f, q)
			a, b, d, e := cable.Firm(g, scaled(p, read(c.above())))
			if got := fmt.Sprint(a, b, d, e); got != want {
				t.Fatalf("%v %v: %s, mixed %s", f, q, want, got)
			}
			a, b, d, e = cable.Firm(g, scaled(p, big.NewRat(-3, 7)))
			if got := fmt.Sprint(a, d, b, e); got != want {
				t.Fatalf("%v %v: %s, mixed the other way %s", f, q, want, got)
			}
		}
	}
}

// parts is how many parts of f hang together by bars.
func parts(f api.Frame) int {
	of := make([]int, len(f.Joints))
	for i := range of {
		of[i] = i
	}
	n := len(of)
	for _, b := range f.Bars {
		if from, to := of[b.A], of[b.B]; from != to {
			n--
			for i := range of {
				if of[i] == from {
					of[i] = to
				}
			}
		}
	}
	return n
}

// Where all q are above 0 only what is the same all over a part makes the form 0.
func TestFirmWhereAllPull(t *testing.T) {
	c := chance{Rand: rand.New(rand.NewSource(4))}
	seen := map[int]int{}
	for range 600 {
		f := c.frame(1+c.Intn(api.MaxJoints), c.Intn(api.MaxBars+1), 3)
		q := many(len(f.Bars), c.above)
		n := len(f.Joints) - parts(f)
		if _, plus, minus, g := cable.Firm(f, q); plus != n || minus != 0 || g != (api.Fault{}) {
			t.Fatalf("%v %v: %d %d %v, want %d", f, q, plus, minus, g, n)
		}
		if _, plus, minus, g := cable.Firm(f, scaled(q, big.NewRat(-1, 1))); plus != 0 || minus != n || g != (api.Fault{}) {
			t.Fatalf("%v, pushed by %v: %d %d %v, want %d", f, q, plus, minus, g, n)
		}
		seen[parts(f)]++
	}
	for n := range 4 {
		if seen[n+1] < 20 {
			t.Errorf("only %d of %d parts", seen[n+1], n+1)
		}
	}
}

// beside is two frames that hang together by nothing.
func beside(f, g api.Frame) api.Frame {
	both := api.Frame{Joints: slices.Concat(f.Joints, g.Joints), Bars: slices.Clone(f.Bars)}
	for _, b := range g.Bars {
		b.A, b.B = b.A+len(f.Joints), b.B+len(f.Joints)
		both.Bars = append(both.Bars, b)
	}
	return both
}

func TestFirmOfPartsAddsUp(t *testing.T) {
	c := chance{Rand: rand.New(rand.NewSource(5))}
	for range 500 {
		f, g := c.frame(1+c.Intn(5), c.Intn(12), 0), c.frame(1+c.Intn(5), c.Intn(12), 0)
		p, q := many(len(f.Bars), c.q), many(len(g.Bars), c.q)
		e1, p1, m1, _ := cable.Firm(f, p)
		e2, p2, m2, _ := cable.Firm(g, q)
		even, plus, minus, e := cable.Firm(beside(f, g), slices.Concat(p, q))
		if even != (e1 && e2) || plus != p1+p2 || minus != m1+m2 || e != (api.Fault{}) {
			t.Fatalf("%v %v, %v %v: %v %d %d %v", f, p, g, q, even, plus, minus, e)
		}
	}
}

// One bar more that pulls: at most one square more is added, and at most one less is subtracted, never the other way. If there is one ahead between its ends, it's as if that pulled more.
func TestFirmWithOneBarMore(t *testing.T) {
	c := chance{Rand: rand.New(rand.NewSource(6))}
	seen := map[[2]int]int{}
	for range 1500 {
		f := c.frame(2+c.Intn(5), 2+c.Intn(12), 0)
		if len(f.Bars) == 0 {
			continue
		}
		q, more, at := many(len(f.Bars), c.q), c.above(), c.Intn(len(f.Bars))
		_, p1, m1, _ := cable.Firm(f, q)
		g := f
		g.Bars = append(slices.Clone(f.Bars), f.Bars[at])
		e2, p2, m2, _ := cable.Firm(g, append(slices.Clone(q), more))
		seen[[2]int{p2 - p1, m1 - m2}]++
		q[at] = told(new(big.Rat).Add(read(q[at]), read(more)))
		if e3, p3, m3, _ := cable.Firm(f, q); e2 != e3 || p2 != p3 || m2 != m3 {
			t.Fatalf("%v: %v %d %d, as one bar %v %d %d", g, e2, p2, m2, e3, p3, m3)
		}
	}
	for _, change := range [][2]int{{0, 0}, {1, 0}, {0, 1}, {1, 1}} {
		if seen[change] < 20 || len(seen) != 4 {
			t.Errorf("more added, less subtracted: %v", seen)
		}
	}
}
