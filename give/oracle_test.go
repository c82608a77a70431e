package give_test

import (
	"fmt"
	"math/big"
	"math/rand"
	"slices"
	"strings"
	"testing"

	"rafter/api"
	"rafter/give"
	"rafter/still"
)

// Answers are held against the chapter's words here, by the library's fractions. Whether there is one, or more than one, is told by right angles, and of all unknowns at once: how joints are moved, and what bars and holds do.

type list []*big.Rat

func noughts(n int) list {
	l := make(list, n)
	for i := range l {
		l[i] = new(big.Rat)
	}
	return l
}

func times(a, b list) *big.Rat {
	sum := new(big.Rat)
	for i := range a {
		sum.Add(sum, new(big.Rat).Mul(a[i], b[i]))
	}
	return sum
}

func (l list) isZero() bool {
	return !slices.ContainsFunc(l, func(x *big.Rat) bool { return x.Sign() != 0 })
}

// corner is what stands at right angles to each other.
type corner []list

// rest is what is left of l, when all that goes along with c is taken from it: 0 if l hangs together with c.
func (c corner) rest(l list) list {
	out := noughts(len(l))
	for i := range l {
		out[i].Set(l[i])
	}
	for _, a := range c {
		by := new(big.Rat).Quo(times(out, a), times(a, a))
		for i := range out {
			out[i].Sub(out[i], new(big.Rat).Mul(by, a[i]))
		}
	}
	return out
}

func rat(t *testing.T, q api.Q) *big.Rat {
	t.Helper()
	x, ok := new(big.Rat).SetString(string(q))
	if !ok || x.RatString() != string(q) {
		t.Fatalf("%q isn't in lowest terms", q)
	}
	return x
}

func rats(t *testing.T, l []api.Q) list {
	t.Helper()
	var out list
	for _, q := range l {
		out = append(out, rat(t, q))
	}
	return out
}

func flat(t *testing.T, m []api.Spot) list {
	t.Helper()
	var out list
	for _, s := range m {
		out = append(out, rat(t, s.X), rat(t, s.Y))
	}
	return out
}

func wayOf(t *testing.T, f api.Frame, b api.Bar) list {
	t.Helper()
	from, to, way := flat(t, f.Joints[b.A:b.A+1]), flat(t, f.Joints[b.B:b.B+1]), noughts(2)
	for k := range 2 {
		way[k].Sub(to[k], from[k])
	}
	return way
}

func heldAt(h api.Hold) int { return 2*h.Joint + h.Way - api.Along }

// asked is all that the chapter asks of a frame and loads, in one list, of unknowns in one list: of each joint X and Y, of each bar, of each hold. Each column is what one unknown adds to what is asked.
func asked(t *testing.T, f api.Frame, l []api.Load) (columns []list, sums list) {
	ways, bars := 2*len(f.Joints), len(f.Bars)
	n := ways + bars + len(f.Holds)
	for range n {
		columns = append(columns, noughts(n))
	}
	sums = noughts(n)
	for _, x := range l {
		for k, q := range []api.Q{x.Way.X, x.Way.Y} {
			sums[2*x.Joint+k].Sub(sums[2*x.Joint+k], rat(t, q))
		}
	}
	for i, b := range f.Bars {
		at := ways + i
		for k, w := range wayOf(t, f, b) {
			columns[at][2*b.A+k].Set(w)
			columns[at][2*b.B+k].Neg(w)
			columns[2*b.A+k][at].Neg(w)
			columns[2*b.B+k][at].Set(w)
		}
		columns[at][at].Neg(new(big.Rat).Inv(rat(t, b.C)))
		sums[at].Set(rat(t, b.E))
	}
	for i, h := range f.Holds {
		at := ways + bars + i
		columns[at][heldAt(h)].SetInt64(1)
		columns[heldAt(h)][at].SetInt64(1)
		sums[at].Set(rat(t, h.By))
	}
	return columns, sums
}

// wanted is what the Code must be.
func wanted(columns []list, sums list) api.Errno {
	var c corner
	free := false
	for _, x := range columns {
		if r := c.rest(x); r.isZero() {
			free = true
		} else {
			c = append(c, r)
		}
	}
	if !c.rest(sums).isZero() {
		return api.ErrNone
	}
	if free {
		return api.ErrFree
	}
	return api.OK
}

// heldAgainst holds what Move tells against the chapter, and answers the Code.
func heldAgainst(t *testing.T, f api.Frame, l []api.Load) api.Errno {
	t.Helper()
	m, g := give.Move(f, l)
	columns, sums := asked(t, f, l)
	if want := wanted(columns, sums); g != fault(want, 0) {
		t.Fatalf("%v %v: %v, want %v", f, l, g, want)
	}
	if _, c := still.Carry(f, l); (c.Code == api.ErrNone) != (g.Code == api.ErrNone) {
		t.Fatalf("%v %v: %v, but Carry: %v", f, l, g, c)
	}
	if g.Code != api.OK {
		if m.Joints != nil || m.Stress.Bars != nil || m.Stress.Holds != nil {
			t.Fatalf("%v and %v", m, g)
		}
		return g.Code
	}
	if len(m.Joints) != len(f.Joints) || len(m.Stress.Bars) != len(f.Bars) || len(m.Stress.Holds) != len(f.Holds) {
		t.Fatalf("%v: %v", f, m)
	}
	got := slices.Concat(flat(t, m.Joints), rats(t, m.Stress.Bars), rats(t, m.Stress.Holds))
	for i, sum := range sums {
		row := noughts(len(got))
		for k := range got {
			row[k].Set(columns[k][i])
		}
		if times(row, got).Cmp(sum) != 0 {
			t.Fatalf("%v %v: %v: number %d of what is asked isn't so", f, l, m, i)
		}
	}
	energyHeld(t, f, m.Stress.Bars)
	return g.Code
}

func energyHeld(t *testing.T, f api.Frame, bars []api.Q) {
	t.Helper()
	sum := new(big.Rat)
	for i, x := range rats(t, bars) {
		sum.Add(sum, x.Mul(x, x).Quo(x, rat(t, f.Bars[i].C)))
	}
	if e, g := give.Energy(f, bars); g != (api.Fault{}) || rat(t, e).Cmp(sum.Quo(sum, big.NewRat(2, 1))) != 0 {
		t.Fatalf("%v %v: %v %v, want %v", f, bars, e, g, sum)
	}
}

// chance draws fractions, frames and loads.
type chance struct {
	*rand.Rand
	long bool // fractions of many digits
	idle bool // E and By are all 0
}

func (c chance) digits() string {
	s := fmt.Sprint(1 + c.Intn(9))
	if c.long {
		s += strings.Repeat(fmt.Sprint(c.Int31()), 3)
	}
	return s
}

// q is a fraction, now and then 0.
func (c chance) q() api.Q {
	if c.Intn(5) == 0 {
		return "0"
	}
	x, _ := new(big.Rat).SetString([]string{"", "-"}[c.Intn(2)] + c.digits() + "/" + c.digits())
	return api.Q(x.RatString())
}

func (c chance) moved() api.Q {
	if c.idle {
		return "0"
	}
	return c.q()
}

// frame lies on a narrow grid, if its fractions aren't long, so that some of its parts hang together.
func (c chance) frame(joints, bars int) api.Frame {
	var f api.Frame
	for range 1 + c.Intn(joints) {
		s := spot(api.Q(fmt.Sprint(c.Intn(4))), api.Q(fmt.Sprint(c.Intn(4))))
		if c.long {
			s = spot(c.q(), c.q())
		}
		f.Joints = append(f.Joints, s)
	}
	n := len(f.Joints)
	for range c.Intn(bars + 1) {
		if a, b := c.Intn(n), c.Intn(n); f.Joints[a] != f.Joints[b] {
			f.Bars = append(f.Bars, api.Bar{A: a, B: b, C: api.Q(strings.Trim(string(c.q()), "-")), E: c.moved()})
			if last := &f.Bars[len(f.Bars)-1]; last.C == "0" {
				last.C = "1"
			}
		}
	}
	for _, k := range c.Perm(2 * n)[:min(2*n, 2+c.Intn(n+2))] {
		f.Holds = append(f.Holds, api.Hold{Joint: k / 2, Way: api.Along + k%2, By: c.moved()})
	}
	return f
}

func (c chance) loads(f api.Frame) []api.Load {
	var l []api.Load
	for range c.Intn(4) {
		l = append(l, load(c.Intn(len(f.Joints)), c.q(), c.q()))
	}
	return l
}

func TestAgainstTheChapter(t *testing.T) {
	c := chance{Rand: rand.New(rand.NewSource(7))}
	seen := map[api.Errno]int{}
	for i := range 1500 {
		joints, bars := 4, 9
		if i%300 == 0 {
			joints, bars = 7, 13
		}
		f := c.frame(joints, bars)
		seen[heldAgainst(t, f, c.loads(f))]++
	}
	for _, e := range []api.Errno{api.OK, api.ErrNone, api.ErrFree} {
		if seen[e] < 200 {
			t.Errorf("only %d of %d", seen[e], e)
		}
	}
}

// A frame of long fractions that is stiff, and one that isn't.
func TestLongFractions(t *testing.T) {
	c := chance{Rand: rand.New(rand.NewSource(9)), long: true}
	f := drawn("0,0 0,0 0,0 0,0", "0-1 1-2 2-3 3-0 0-2 1-3", supports)
	for i := range f.Joints {
		f.Joints[i] = spot(c.q(), c.q())
	}
	for i := range f.Bars {
		f.Bars[i].C, f.Bars[i].E = api.Q(c.digits()), c.q()
	}
	for i := range f.Holds {
		f.Holds[i].By = c.q()
	}
	l := []api.Load{load(3, c.q(), c.q()), load(2, c.q(), c.q()), load(3, c.q(), c.q())}
	if e := heldAgainst(t, f, l); e != api.OK {
		t.Errorf("not moved: %v", e)
	}
	f.Bars = f.Bars[:4]
	if e := heldAgainst(t, f, l); e != api.ErrNone {
		t.Errorf("it sways: %v", e)
	}
	if e := heldAgainst(t, f, nil); e != api.ErrFree {
		t.Errorf("it sways: %v", e)
	}
}

// One bar of great numbers: it is pulled to u, which is P over C and over its length's square.
func TestGreatNumbers(t *testing.T) {
	c := chance{Rand: rand.New(rand.NewSource(10))}
	great := func() *big.Rat {
		digits := func() string {
			s := "7"
			for range 300 {
				s += fmt.Sprint(c.Intn(10))
			}
			return s + "1"
		}
		x, _ := new(big.Rat).SetString(digits() + "/" + digits())
		return x
	}
	long, stiff, pull := great(), great(), great()
	q := func(x *big.Rat) api.Q { return api.Q(x.RatString()) }
	f := drawn("0,0 0,0", "", "0x 0y 1y")
	f.Joints[1].X = q(long)
	f.Bars = []api.Bar{{A: 0, B: 1, C: q(stiff)}}
	stress := new(big.Rat).Quo(pull, long)
	u := new(big.Rat).Quo(stress, new(big.Rat).Mul(stiff, long))
	m, g := give.Move(f, []api.Load{load(1, q(pull), "0")})
	want := api.Moved{Joints: []api.Spot{spot("0", "0"), spot(q(u), "0")}, Stress: api.Stress{Bars: []api.Q{q(stress)}, Holds: []api.Q{"-" + q(pull), "0", "0"}}}
	if g != (api.Fault{}) || toldMoved(m) != toldMoved(want) {
		t.Errorf("%s %v, want %s", toldMoved(m), g, toldMoved(want))
	}
	work := new(big.Rat).Mul(pull, u)
	if e, g := give.Energy(f, m.Stress.Bars); g != (api.Fault{}) || e != q(work.Quo(work, big.NewRat(2, 1))) {
		t.Errorf("%s %v, want %s", e, g, q(work))
	}
}
