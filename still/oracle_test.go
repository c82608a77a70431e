package still_test

import (
	"fmt"
	"math/big"
	"math/rand"
	"slices"
	"strings"
	"testing"

	"rafter/api"
	"rafter/still"
)

// Answers are held against the chapter's words here, by the library's fractions, and by another way than the program's: what hangs together is told by right angles.

type list []*big.Rat

func noughts(n int) list {
	l := make(list, n)
	for i := range l {
		l[i] = new(big.Rat)
	}
	return l
}

func times(a, b list) *big.Rat {
	sum := new(big.Rat)
	for i := range a {
		sum.Add(sum, new(big.Rat).Mul(a[i], b[i]))
	}
	return sum
}

func (l list) isZero() bool {
	return !slices.ContainsFunc(l, func(x *big.Rat) bool { return x.Sign() != 0 })
}

// corner is what stands at right angles to each other.
type corner []list

// rest is what is left of l, when all that goes along with c is taken from it: 0 if l hangs together with c.
func (c corner) rest(l list) list {
	out := noughts(len(l))
	for i := range l {
		out[i].Set(l[i])
	}
	for _, a := range c {
		by := new(big.Rat).Quo(times(out, a), times(a, a))
		for i := range out {
			out[i].Sub(out[i], new(big.Rat).Mul(by, a[i]))
		}
	}
	return out
}

// freeOf tells which ones hang together with those ahead of them, and what the others come to, at right angles to each other.
func freeOf(l []list) ([]int, corner) {
	var free []int
	var c corner
	for i, x := range l {
		if r := c.rest(x); r.isZero() {
			free = append(free, i)
		} else {
			c = append(c, r)
		}
	}
	return free, c
}

func rat(t *testing.T, q api.Q) *big.Rat {
	t.Helper()
	x, ok := new(big.Rat).SetString(string(q))
	if !ok || x.RatString() != string(q) {
		t.Fatalf("%q isn't in lowest terms", q)
	}
	return x
}

func rats(t *testing.T, l []api.Q) list {
	t.Helper()
	var out list
	for _, q := range l {
		out = append(out, rat(t, q))
	}
	return out
}

func flat(t *testing.T, m []api.Spot) list {
	t.Helper()
	var out list
	for _, s := range m {
		out = append(out, rat(t, s.X), rat(t, s.Y))
	}
	return out
}

// putsOf is what each bar and hold puts at the joints by a stress of 1.
func putsOf(t *testing.T, f api.Frame) []list {
	places := flat(t, f.Joints)
	var out []list
	for _, b := range f.Bars {
		l := noughts(2 * len(f.Joints))
		for k := range 2 {
			l[2*b.A+k].Sub(places[2*b.B+k], places[2*b.A+k])
			l[2*b.B+k].Neg(l[2*b.A+k])
		}
		out = append(out, l)
	}
	for _, h := range f.Holds {
		l := noughts(2 * len(f.Joints))
		l[2*h.Joint+h.Way-1].SetInt64(1)
		out = append(out, l)
	}
	return out
}

func turnedOver(l []list, wide int) []list {
	var out []list
	for k := range wide {
		row := noughts(len(l))
		for i := range l {
			row[i].Set(l[i][k])
		}
		out = append(out, row)
	}
	return out
}

// isBasis holds got against the free places: each one makes all of puts come to nothing, is 1 at its place and 0 at those of the others.
func isBasis(t *testing.T, what string, got, puts []list, free []int, wide int) {
	t.Helper()
	if len(got) != len(free) {
		t.Fatalf("%s: %d, want %d", what, len(got), len(free))
	}
	over := turnedOver(puts, wide)
	for i, x := range got {
		if len(x) != len(puts) {
			t.Fatalf("%s: %d numbers, want %d", what, len(x), len(puts))
		}
		for _, row := range over {
			if times(row, x).Sign() != 0 {
				t.Fatalf("%s: %v comes to something", what, x)
			}
		}
		for k, at := range free {
			one := int64(0)
			if k == i {
				one = 1
			}
			if x[at].Cmp(big.NewRat(one, 1)) != 0 {
				t.Fatalf("%s: number %d is %v at %d", what, i, x[at], at)
			}
		}
	}
}

// heldAgainst holds all that is told of f, with the loads l, against the chapter, and answers what Carry's Code is.
func heldAgainst(t *testing.T, r *rand.Rand, f api.Frame, l []api.Load) api.Errno {
	t.Helper()
	parts, ways := len(f.Bars)+len(f.Holds), 2*len(f.Joints)
	puts := putsOf(t, f)
	free, c := freeOf(puts)
	stiff := turnedOver(puts, ways)
	loose, _ := freeOf(stiff)
	rank, stresses, motions, g := still.Counts(f)
	if g != (api.Fault{}) || rank != len(c) || stresses != len(free) || motions != len(loose) || stresses-motions != parts-ways {
		t.Fatalf("%v: %d %d %d %v, want %d %d %d", f, rank, stresses, motions, g, len(c), len(free), len(loose))
	}
	s, g1 := still.Stresses(f)
	m, g2 := still.Motions(f)
	if g1 != (api.Fault{}) || g2 != (api.Fault{}) {
		t.Fatalf("%v: %v %v", f, g1, g2)
	}
	var sl, ml []list
	for _, x := range s {
		if len(x.Bars) != len(f.Bars) {
			t.Fatalf("%v: %v", f, x)
		}
		sl = append(sl, append(rats(t, x.Bars), rats(t, x.Holds)...))
	}
	for _, x := range m {
		ml = append(ml, flat(t, x))
	}
	isBasis(t, "stresses", sl, puts, free, ways)
	isBasis(t, "motions", ml, stiff, loose, parts)
	loads := noughts(ways)
	for _, x := range l {
		for k, q := range []api.Q{x.Way.X, x.Way.Y} {
			loads[2*x.Joint+k].Add(loads[2*x.Joint+k], rat(t, q))
		}
	}
	return carried(t, r, f, l, loads, c, sl, ml)
}

func carried(t *testing.T, r *rand.Rand, f api.Frame, l []api.Load, loads list, c corner, stresses, motions []list) api.Errno {
	t.Helper()
	got, g := still.Carry(f, l)
	want := api.OK
	if !c.rest(loads).isZero() {
		want = api.ErrNone
	} else if len(stresses) > 0 {
		want = api.ErrFree
	}
	if g != fault(want, 0) {
		t.Fatalf("%v %v: %v, want %v", f, l, g, want)
	}
	works := slices.ContainsFunc(motions, func(m list) bool { return times(m, loads).Sign() != 0 })
	if works != (want == api.ErrNone) {
		t.Fatalf("%v %v: %v, but that the loads work is %v", f, l, g, works)
	}
	if want != api.OK {
		if got.Bars != nil || got.Holds != nil {
			t.Fatalf("%v and %v", got, g)
		}
		return want
	}
	bars, holds := rats(t, got.Bars), rats(t, got.Holds)
	if len(bars) != len(f.Bars) || len(holds) != len(f.Holds) {
		t.Fatalf("%v: %v", f, got)
	}
	for range 3 {
		worksAlike(t, r, f, loads, bars, holds)
	}
	for i := range loads { // along the motion of one joint in one way: that is, what bears them
		motion := noughts(len(loads))
		motion[i].SetInt64(1)
		alongOne(t, f, loads, bars, holds, motion)
	}
	return want
}

func worksAlike(t *testing.T, r *rand.Rand, f api.Frame, loads, bars, holds list) {
	t.Helper()
	motion := noughts(len(loads))
	for i := range motion {
		motion[i].SetFrac64(int64(r.Intn(19)-9), int64(1+r.Intn(4)))
	}
	alongOne(t, f, loads, bars, holds, motion)
}

// alongOne holds P3.4 of one motion.
func alongOne(t *testing.T, f api.Frame, loads, bars, holds, motion list) {
	t.Helper()
	places := flat(t, f.Joints)
	sum := new(big.Rat)
	for i, b := range f.Bars {
		way, apart := noughts(2), noughts(2)
		for k := range 2 {
			way[k].Sub(places[2*b.B+k], places[2*b.A+k])
			apart[k].Sub(motion[2*b.B+k], motion[2*b.A+k])
		}
		sum.Add(sum, new(big.Rat).Mul(bars[i], times(way, apart)))
	}
	for i, h := range f.Holds {
		sum.Sub(sum, new(big.Rat).Mul(holds[i], motion[2*h.Joint+h.Way-api.Along]))
	}
	if work := times(loads, motion); work.Cmp(sum) != 0 {
		t.Fatalf("%v along %v: loads work %v, bars and holds %v", f, motion, work, sum)
	}
}

// randomFrame lies on a narrow grid, now and then on a line, so that many of its parts hang together.
func randomFrame(r *rand.Rand, q func() api.Q, joints, bars int) api.Frame {
	var f api.Frame
	line := r.Intn(5) == 0
	for range 1 + r.Intn(joints) {
		s := spot(q(), q())
		if line {
			s.Y = s.X
		}
		f.Joints = append(f.Joints, s)
	}
	n := len(f.Joints)
	for range r.Intn(bars + 1) {
		if a, b := r.Intn(n), r.Intn(n); f.Joints[a] != f.Joints[b] {
			f.Bars = append(f.Bars, bar(a, b))
		}
	}
	for _, k := range r.Perm(2 * n)[:r.Intn(2*n+1)] {
		if r.Intn(3) > 0 {
			f.Holds = append(f.Holds, hold(k/2, api.Along+k%2))
		}
	}
	return f
}

// randomLoads are, now and then, such as the bars and holds put at the joints themselves: then something bears them.
func randomLoads(r *rand.Rand, t *testing.T, f api.Frame, q func() api.Q) []api.Load {
	var l []api.Load
	if r.Intn(2) == 0 {
		for range r.Intn(5) {
			l = append(l, load(r.Intn(len(f.Joints)), q(), q()))
		}
		return l
	}
	sum := noughts(2 * len(f.Joints))
	for _, p := range putsOf(t, f) {
		by := big.NewRat(int64(r.Intn(9)-4), int64(1+r.Intn(3)))
		for i := range p {
			sum[i].Add(sum[i], p[i].Mul(p[i], by))
		}
	}
	for i := range f.Joints {
		l = append(l, load(i, api.Q(sum[2*i].RatString()), api.Q(sum[2*i+1].RatString())))
	}
	return l
}

func TestAgainstTheChapter(t *testing.T) {
	r := rand.New(rand.NewSource(7))
	q := func() api.Q {
		return api.Q(big.NewRat(int64(r.Intn(7)-3), int64(1+r.Intn(2))).RatString())
	}
	seen := map[api.Errno]int{}
	for i := range 3000 {
		joints, bars := 5, 9
		if i%50 == 0 {
			joints, bars = api.MaxJoints, api.MaxBars
		}
		f := randomFrame(r, q, joints, bars)
		seen[heldAgainst(t, r, f, randomLoads(r, t, f, q))]++
	}
	for _, e := range []api.Errno{api.OK, api.ErrNone, api.ErrFree} {
		if seen[e] < 200 {
			t.Errorf("only %d of %d", seen[e], e)
		}
	}
}

func TestMostAgainstTheChapter(t *testing.T) {
	r := rand.New(rand.NewSource(8))
	heldAgainst(t, r, most(), []api.Load{load(3, "1/2", "-5")})
	f := most()
	f.Holds = nil
	heldAgainst(t, r, f, []api.Load{load(3, "1/2", "-5")})
	f.Bars = nil
	heldAgainst(t, r, f, nil)
	heldAgainst(t, r, drawn(prismThatMeets, prismBars, ""), nil)
	heldAgainst(t, r, drawn(onCircle, threes, "0x 0y 1y"), nil)
}

// A chain of triangles, its places long fractions.
func TestLongFractions(t *testing.T) {
	r := rand.New(rand.NewSource(9))
	q := func() api.Q {
		digits := func() string { return fmt.Sprint(1+r.Intn(9)) + strings.Repeat(fmt.Sprint(r.Int31()), 3) }
		x, _ := new(big.Rat).SetString(digits() + "/" + digits())
		return api.Q(x.RatString())
	}
	var f api.Frame
	for i := range 7 {
		f.Joints = append(f.Joints, spot(q(), q()))
		for k := max(0, i-2); k < i; k++ {
			f.Bars = append(f.Bars, bar(k, i))
		}
	}
	f.Holds = drawn("", "", supports).Holds
	if e := heldAgainst(t, r, f, []api.Load{load(6, q(), q()), load(4, q(), q())}); e != api.OK {
		t.Errorf("not carried: %v", e)
	}
}
