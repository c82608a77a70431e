package limit_test

import (
	"fmt"
	"math/big"
	"math/rand"
	"slices"
	"strings"
	"testing"

	"rafter/api"
	"rafter/limit"
	"rafter/still"
)

// chance draws frames, loads, stresses and motions.
type chance struct {
	*rand.Rand
	digits int // how long its numbers are; 0: few and short ones, so that much of what is drawn hangs together
}

func (c chance) q() api.Q {
	if c.digits == 0 {
		return api.Q(big.NewRat(int64(c.Intn(7)-3), int64(1+c.Intn(2))).RatString())
	}
	x := new(big.Rat).SetFrac(c.long(), c.long())
	if c.Intn(2) == 0 {
		x.Neg(x)
	}
	return api.Q(x.RatString())
}

func (c chance) long() *big.Int {
	var b strings.Builder
	b.WriteByte(byte('1' + c.Intn(9)))
	for range c.digits {
		b.WriteByte(byte('0' + c.Intn(10)))
	}
	x, _ := new(big.Int).SetString(b.String(), 10)
	return x
}

// end is how far a bar holds in one way: at times not at all.
func (c chance) end(sign string) api.Q {
	q := strings.TrimPrefix(string(c.q()), "-")
	if q == "0" || c.Intn(5) == 0 {
		return "0"
	}
	return api.Q(sign + q)
}

// frame lies on a narrow grid, if numbers are short, at times on a line; at times all its bars hold alike.
func (c chance) frame(joints, bars int) api.Frame {
	var f api.Frame
	line, alike := c.Intn(6) == 0, c.Intn(3) == 0
	for range joints {
		s := spot(c.q(), c.q())
		if line {
			s.Y = s.X
		}
		f.Joints = append(f.Joints, s)
	}
	least, most := c.end("-"), c.end("")
	for range bars {
		b := api.Bar{A: c.Intn(joints), B: c.Intn(joints), C: "1", Least: c.end("-"), Most: c.end("")}
		if alike {
			b.Least, b.Most = least, most
		}
		if f.Joints[b.A] != f.Joints[b.B] {
			f.Bars = append(f.Bars, b)
		}
	}
	for _, k := range c.Perm(2 * joints)[:c.Intn(joints+3)%(2*joints)] {
		f.Holds = append(f.Holds, hold(k/2, api.Along+k%2))
	}
	return f
}

// loads are, at times, such as bars put at the joints: then something bears them.
func (c chance) loads(f api.Frame) []api.Load {
	var l []api.Load
	if len(f.Bars) == 0 || c.Intn(3) == 0 {
		for range c.Intn(4) {
			l = append(l, load(c.Intn(len(f.Joints)), c.q(), c.q()))
		}
		return l
	}
	for range 1 + c.Intn(4) {
		b, by := f.Bars[c.Intn(len(f.Bars))], read(c.q())
		a, o := none(), none()
		a.add(by, wayOf(f, b))
		o = o.less(a)
		l = append(l, load(b.A, api.Q(a[0].RatString()), api.Q(a[1].RatString())), load(b.B, api.Q(o[0].RatString()), api.Q(o[1].RatString())))
	}
	return l
}

// motion moves, mostly, no held joint in its way.
func (c chance) motion(f api.Frame) []api.Spot {
	m := make([]api.Spot, len(f.Joints))
	for i := range m {
		m[i] = spot(c.q(), c.q())
	}
	for _, h := range f.Holds {
		if c.Intn(20) == 0 {
			continue
		}
		if h.Way == api.Along {
			m[h.Joint].X = "0"
		} else {
			m[h.Joint].Y = "0"
		}
	}
	return m
}

func TestCarriesOfMany(t *testing.T) {
	c := chance{Rand: rand.New(rand.NewSource(1))}
	seen := map[string]int{}
	for i := range 4000 {
		joints, bars := 1+c.Intn(5), c.Intn(10)
		if i%10 == 0 {
			joints, bars = api.MaxJoints, api.MaxBars
		}
		f := c.frame(joints, bars)
		got, g := carriedOrFree(t, f, c.loads(f))
		if g.Code != api.OK {
			seen["free"]++
		} else if got.Factor == "0" {
			seen["0"]++
		} else {
			seen["above 0"]++
		}
	}
	for _, what := range []string{"free", "0", "above 0"} {
		if seen[what] < 300 {
			t.Errorf("only %d of %s", seen[what], what)
		}
	}
}

// Where one stress alone bears the loads, it grows with them until the first bar gives.
func TestCarriesByOneStress(t *testing.T) {
	c := chance{Rand: rand.New(rand.NewSource(2))}
	carried := 0
	for range 3000 {
		f := c.frame(2+c.Intn(3), 1+c.Intn(5))
		l := c.loads(f)
		s, g := still.Carry(f, l)
		if g.Code != api.OK {
			continue
		}
		var want *big.Rat
		for i, b := range f.Bars {
			x := read(s.Bars[i])
			if x.Sign() == 0 {
				continue
			}
			end := read(b.Most)
			if x.Sign() < 0 {
				end = read(b.Least)
			}
			if end.Quo(end, x); want == nil || end.Cmp(want) < 0 {
				want = end
			}
		}
		got, g := carriedOrFree(t, f, l)
		if want == nil && g != fault(api.ErrFree, 0) || want != nil && (g != (api.Fault{}) || got.Factor != api.Q(want.RatString())) {
			t.Fatalf("%v %v: %v %v, want %v", f, l, got, g, want)
		}
		if want != nil {
			carried++
		}
	}
	if carried < 300 {
		t.Errorf("only %d are carried", carried)
	}
}

// toldAlike holds Safe and Breaks against the chapter.
func toldAlike(t *testing.T, f api.Frame, l []api.Load, factor api.Q, s api.Stress, m []api.Spot) (safe bool, q api.Q) {
	t.Helper()
	safe, g := limit.Safe(f, l, factor, s)
	if g != (api.Fault{}) || safe != isSafe(f, l, factor, s) {
		t.Fatalf("%v %v %s %v: %v %v", f, l, factor, s, safe, g)
	}
	q, g = limit.Breaks(f, l, m)
	want, h := breaks(f, l, m)
	if g != h || g.Code != api.OK && q != "" || g.Code == api.OK && q != api.Q(want.RatString()) {
		t.Fatalf("%v %v %v: %s %v, want %v %v", f, l, m, q, g, want, h)
	}
	return safe, q
}

// part is s, each number times by, and a little of another stress that bears nothing.
func part(s api.Stress, by *big.Rat, own []api.Stress, little *big.Rat) api.Stress {
	scaled := func(l []api.Q, pick func(api.Stress) []api.Q) []api.Q {
		var out []api.Q
		for i, q := range l {
			x := new(big.Rat).Mul(read(q), by)
			for _, o := range own {
				x.Add(x, new(big.Rat).Mul(read(pick(o)[i]), little))
			}
			out = append(out, api.Q(x.RatString()))
		}
		return out
	}
	return api.Stress{
		Bars:  scaled(s.Bars, func(o api.Stress) []api.Q { return o.Bars }),
		Holds: scaled(s.Holds, func(o api.Stress) []api.Q { return o.Holds }),
	}
}

// No factor with which a stress is safe is above what any motion breaks by. (P8.4)
func TestSafeIsNeverAboveBreaks(t *testing.T) {
	c := chance{Rand: rand.New(rand.NewSource(3))}
	safe, unsafe, broken, meet := 0, 0, 0, 0
	for range 1500 {
		f := c.frame(2+c.Intn(4), 1+c.Intn(9))
		l := c.loads(f)
		top, g := carriedOrFree(t, f, l)
		if g.Code != api.OK {
			continue
		}
		own, _ := still.Stresses(f)
		for range 6 {
			by := big.NewRat(int64(c.Intn(14)-1), 10)
			s := part(top.Stress, by, own, big.NewRat(int64(c.Intn(3)), 10))
			factor := by.Mul(by, read(top.Factor))
			ok, q := toldAlike(t, f, l, api.Q(factor.RatString()), s, c.motion(f))
			if ok {
				safe++
			} else {
				unsafe++
			}
			if ok && factor.Cmp(read(top.Factor)) > 0 {
				t.Fatalf("%v %v: %v is safe with %v, beyond %s", f, l, s, factor, top.Factor)
			}
			if q == "" {
				continue
			}
			broken++
			if read(q).Cmp(read(top.Factor)) < 0 || ok && read(q).Cmp(factor) < 0 {
				t.Fatalf("%v %v: broken by %s, but carried %s times", f, l, q, top.Factor)
			}
			if q == top.Factor {
				meet++
			}
		}
	}
	if safe < 300 || unsafe < 300 || broken < 300 || meet < 30 || meet == broken {
		t.Errorf("%d safe, %d not, %d broken, %d at the factor", safe, unsafe, broken, meet)
	}
}

// One number changed, and a stress that was safe bears something else.
func TestSafeOfOneNumberChanged(t *testing.T) {
	c := chance{Rand: rand.New(rand.NewSource(4))}
	for range 300 {
		f := c.frame(2+c.Intn(4), 1+c.Intn(9))
		l := c.loads(f)
		top, g := carriedOrFree(t, f, l)
		if g.Code != api.OK {
			continue
		}
		for _, list := range [][]api.Q{top.Stress.Bars, top.Stress.Holds} {
			for i, q := range list {
				list[i] = api.Q(new(big.Rat).Add(read(q), big.NewRat(int64(1-2*c.Intn(2)), 1000)).RatString())
				if ok, g := limit.Safe(f, l, top.Factor, top.Stress); ok || g != (api.Fault{}) {
					t.Fatalf("%v %v %v: %v %v", f, l, top, ok, g)
				}
				list[i] = q
			}
		}
	}
}

// Loads that are greater are borne fewer times, bars that hold more bear more.
func TestCarriesInProportion(t *testing.T) {
	c := chance{Rand: rand.New(rand.NewSource(5))}
	times := func(q api.Q, by int64) api.Q {
		return api.Q(new(big.Rat).Mul(read(q), big.NewRat(by, 1)).RatString())
	}
	for range 300 {
		f := c.frame(2+c.Intn(4), 1+c.Intn(9))
		l := c.loads(f)
		top, g := carriedOrFree(t, f, l)
		if g.Code != api.OK {
			continue
		}
		greater := slices.Clone(l)
		for i, x := range l {
			greater[i].Way = spot(times(x.Way.X, 7), times(x.Way.Y, 7))
		}
		if got := times(heldAgainst(t, f, greater).Factor, 7); got != top.Factor {
			t.Fatalf("%v %v: %s, seven times as much: %s", f, l, top.Factor, got)
		}
		f.Bars = slices.Clone(f.Bars)
		for i, b := range f.Bars {
			f.Bars[i].Least, f.Bars[i].Most = times(b.Least, 3), times(b.Most, 3)
		}
		if got := heldAgainst(t, f, l).Factor; got != times(top.Factor, 3) {
			t.Fatalf("%v %v: %s, thrice as strong: %s", f, l, top.Factor, got)
		}
	}
}

// grid has joints three in a row, and bars to all that are near: all of them hold alike, so that many give at once.
func grid(rows int, least, most api.Q) api.Frame {
	var f api.Frame
	for i := range 3 * rows {
		f.Joints = append(f.Joints, spot(api.Q(fmt.Sprint(i%3)), api.Q(fmt.Sprint(i/3))))
	}
	for a := range 3 * rows {
		for b := range a {
			if dx, dy := a%3-b%3, a/3-b/3; dx*dx <= 1 && dy*dy <= 1 {
				f.Bars = append(f.Bars, api.Bar{A: a, B: b, C: "1", Least: least, Most: most})
			}
		}
	}
	return f
}

// Where many bars give at once, and where they give without the factor having grown, the search still ends.
func TestCarriesWhereManyGive(t *testing.T) {
	ways := spots("1,0 0,1 -1,0 0,-1 1,1 1,-1 2,1")
	for _, end := range [][2]api.Q{{"-1", "1"}, {"0", "1"}, {"-1", "0"}, {"0", "0"}, {"-1", "1000000"}} {
		for _, holds := range []string{"0x 0y 1y", "0x 0y 1x 1y 2x 2y", "0y 1y 2y 0x", "0x 2x 6x 8x 4y", ""} {
			f := grid(3, end[0], end[1])
			f.Holds = drawn("", "", holds).Holds
			for i := range f.Bars {
				if i%4 == 3 { // some hold in one way alone
					f.Bars[i].Least = "0"
				}
			}
			for _, w := range ways {
				var all []api.Load
				for j := range f.Joints {
					carriedOrFree(t, f, []api.Load{{Joint: j, Way: w}})
					all = append(all, api.Load{Joint: j, Way: w})
				}
				carriedOrFree(t, f, all)
				carriedOrFree(t, f, []api.Load{all[8], load(0, "-1", "-1"), all[4]})
			}
		}
	}
}

// One bar as many times as may be: all of them give at once.
func TestCarriesByOneBarOften(t *testing.T) {
	f := drawn(line, strings.Repeat("0-1:-1:1/24 ", api.MaxBars), roller)
	for l, want := range map[string]api.Q{"1=1,0": "1", "1=-1,0": "24", "1=1/5,3": "5"} {
		if got := heldAgainst(t, f, pulls(l)).Factor; got != want {
			t.Errorf("%s: %s, want %s", l, got, want)
		}
	}
}

func TestCarriesLongNumbers(t *testing.T) {
	c := chance{Rand: rand.New(rand.NewSource(6)), digits: 40}
	for range 60 {
		f := c.frame(2+c.Intn(4), 3+c.Intn(8))
		l := c.loads(f)
		if _, g := carriedOrFree(t, f, l); g.Code == api.OK {
			toldAlike(t, f, l, "1", idle(len(f.Bars), len(f.Holds)), c.motion(f))
		}
	}
	long := api.Q("1" + strings.Repeat("0", 3000) + "1")
	f := drawn(line, "0-1", roller)
	f.Bars[0].Most = long
	if got := heldAgainst(t, f, []api.Load{load(1, "1/"+long, "0")}).Factor; got != api.Q(new(big.Rat).Mul(read(long), read(long)).RatString()) {
		t.Errorf("%d digits", len(got))
	}
}

// As many of all as may be, with numbers that are long.
func TestCarriesMostLong(t *testing.T) {
	c := chance{Rand: rand.New(rand.NewSource(7)), digits: 12}
	above := 0
	for range 12 {
		f := c.frame(api.MaxJoints, api.MaxBars)
		var l []api.Load
		for i := range api.MaxLoads {
			l = append(l, load(i%api.MaxJoints, c.q(), c.q()))
		}
		if got := heldAgainst(t, f, l); got.Factor != "0" {
			above++
		}
	}
	if above < 2 {
		t.Errorf("only %d are carried", above)
	}
}
