package cable_test

import (
	"math"
	"slices"
	"testing"

	"rafter/api"
	"rafter/cable"
)

func ones(n int) []api.Q { return slices.Repeat([]api.Q{"1"}, n) }

// shapeless holds a fault of Shape against want.
func shapeless(t *testing.T, what string, f api.Frame, q []api.Q, l []api.Load, want api.Fault) {
	t.Helper()
	if s, g := cable.Shape(f, q, l); s != nil || g != want {
		t.Errorf("%s: Shape with %d numbers: %v %v, want %v", what, len(q), s, g, want)
	}
}

// refused holds the faults of both calls against want, whatever the loads are.
func refused(t *testing.T, what string, f api.Frame, q []api.Q, want api.Fault) {
	t.Helper()
	if even, plus, minus, g := cable.Firm(f, q); even || plus != 0 || minus != 0 || g != want {
		t.Errorf("%s: Firm with %d numbers: %v %d %d %v, want %v", what, len(q), even, plus, minus, g, want)
	}
	for _, l := range [][]api.Load{nil, {load(0, "1", "1")}, {load(-1, "1", "1")}, {load(0, "1", "0"), load(99, "x", "")}, make([]api.Load, api.MaxLoads+1)} {
		shapeless(t, what, f, q, l, want)
	}
}

// everywhere does the same of a frame that isn't right, with any numbers for its bars.
func everywhere(t *testing.T, what string, f api.Frame, want api.Fault) {
	t.Helper()
	n := len(f.Bars)
	for _, q := range [][]api.Q{nil, ones(n), ones(n + 1), ones(max(n-1, 0)), ones(100), make([]api.Q, n)} {
		refused(t, what, f, q, want)
	}
}

func TestFaultsOfMany(t *testing.T) {
	many := fault(api.ErrMany, 0)
	everywhere(t, "nothing", api.Frame{}, many)
	everywhere(t, "no joint", api.Frame{Joints: []api.Spot{}, Bars: []api.Bar{{A: 0, B: 1}}, Holds: []api.Hold{{Way: 9}}}, many)
	for _, c := range []struct {
		what string
		turn func(f *api.Frame)
	}{
		{"one joint more", func(f *api.Frame) { f.Joints = append(f.Joints, spot("77", "0")) }},
		{"one bar more", func(f *api.Frame) { f.Bars = append(f.Bars, f.Bars[0]) }},
		{"one hold more", func(f *api.Frame) { f.Holds = append(f.Holds, f.Holds[0]) }},
		{"many ahead of a bar's joint", func(f *api.Frame) { f.Joints = append(f.Joints, spot("77", "0")); f.Bars[0].A = -1 }},
	} {
		f := most()
		c.turn(&f)
		everywhere(t, c.what, f, many)
	}
}

func TestFaultsOfFrames(t *testing.T) {
	for _, c := range []struct {
		what string
		turn func(f *api.Frame)
		want api.Fault
	}{
		{"A is no joint", func(f *api.Frame) { f.Bars[1].A = 4 }, fault(api.ErrJoint, 1)},
		{"B is no joint", func(f *api.Frame) { f.Bars[3].B = math.MinInt }, fault(api.ErrJoint, 3)},
		{"one joint twice", func(f *api.Frame) { f.Bars[2].B = 2 }, fault(api.ErrValue, 2)},
		{"at one place", func(f *api.Frame) { f.Joints[1] = spot("-0", "0/3") }, fault(api.ErrValue, 0)},
		{"not stiff", func(f *api.Frame) { f.Bars[2].C = "0" }, fault(api.ErrValue, 2)},
		{"Least above 0", func(f *api.Frame) { f.Bars[2].Least = "1/99999" }, fault(api.ErrValue, 2)},
		{"Most below 0", func(f *api.Frame) { f.Bars[3].Most = "-1/99999" }, fault(api.ErrValue, 3)},
		{"a hold of no joint", func(f *api.Frame) { f.Holds[1].Joint = 4 }, fault(api.ErrJoint, 5)},
		{"a hold in no way", func(f *api.Frame) { f.Holds[2].Way = 3 }, fault(api.ErrKind, 6)},
		{"a hold in no way, below", func(f *api.Frame) { f.Holds[2].Way = math.MinInt }, fault(api.ErrKind, 6)},
		{"a hold twice", func(f *api.Frame) { f.Holds[1].Way = api.Along }, fault(api.ErrTwice, 5)},
		{"the first bar of two", func(f *api.Frame) { f.Bars[1].Most, f.Bars[2].A = "-1", -1 }, fault(api.ErrValue, 1)},
		{"the joint ahead of the value", func(f *api.Frame) { f.Bars[2].Least, f.Bars[2].A = "1", -1 }, fault(api.ErrJoint, 2)},
		{"bars ahead of holds", func(f *api.Frame) { f.Bars[3].C, f.Holds[0].Joint = "", -1 }, fault(api.ErrValue, 3)},
	} {
		f := drawn(square, sides, supports)
		c.turn(&f)
		everywhere(t, c.what, f, c.want)
	}
}

// Too few or too many numbers are told of ahead of the loads' faults (see refused), and of there being no shape.
func TestFaultsOfCounts(t *testing.T) {
	for _, c := range []struct {
		what string
		f    api.Frame
		at   int
	}{
		{"a square", drawn(square, sides, supports), 7},
		{"a square that isn't held", drawn(square, crossed, ""), 6},
		{"a cable", drawn(hung, cables, feet), 6},
		{"a joint alone", drawn("5,7", "", ""), 0},
		{"a joint that is held", drawn("5,7", "", "0x 0y"), 2},
		{"as many as may be", most(), api.MaxBars + api.MaxHolds},
	} {
		n := len(c.f.Bars)
		for _, m := range []int{0, 1, n - 1, n + 1, n + len(c.f.Holds), 2 * n, 100} {
			if m < 0 || m == n {
				continue
			}
			refused(t, c.what, c.f, ones(m), fault(api.ErrCount, c.at))
			refused(t, c.what, c.f, make([]api.Q, m), fault(api.ErrCount, c.at))
		}
		if n > 0 {
			refused(t, c.what+", nil", c.f, nil, fault(api.ErrCount, c.at))
		}
		heldAgainst(t, c.f, ones(n), nil)
		firm(t, c.f, ones(n))
	}
}

func TestFaultsOfLoads(t *testing.T) {
	f := drawn(hung+" 1,1", cables+" 0-3", feet+" 3x 3y")
	q := numbers("1 1 2")
	full := slices.Repeat([]api.Load{load(0, "1/5", "-1")}, api.MaxLoads)
	if got := settled(t, f, q, full)[0]; got != spot("2", "-9/2") {
		t.Errorf("as many loads as may be: %v", got)
	}
	shapeless(t, "one load more", f, q, append(slices.Clone(full), load(0, "0", "0")), fault(api.ErrMany, 9))
	shapeless(t, "one more ahead of no joint", f, q, append([]api.Load{load(9, "0", "0")}, full...), fault(api.ErrMany, 9))
	shapeless(t, "one more, no bars, no holds", api.Frame{Joints: []api.Spot{{}}}, nil, make([]api.Load, api.MaxLoads+1), fault(api.ErrMany, 0))
	fine := load(1, "1", "2")
	for _, c := range []struct {
		what string
		l    []api.Load
		at   int
	}{
		{"the first, above", []api.Load{load(4, "0", "0")}, 9},
		{"the first, below", []api.Load{load(-1, "0", "0"), fine}, 9},
		{"the second", []api.Load{fine, load(math.MaxInt, "1", "0")}, 10},
		{"the third", []api.Load{fine, fine, load(math.MinInt, "1", "0"), fine}, 11},
		{"the first of two", []api.Load{fine, load(4, "1", "0"), load(5, "1", "0")}, 10},
		{"the last of as many as may be", append(slices.Clone(full[1:]), load(4, "", "")), 28},
	} {
		shapeless(t, c.what, f, q, c.l, fault(api.ErrJoint, c.at))
		shapeless(t, c.what+", where it could be anywhere", f, numbers("0 0 0"), c.l, fault(api.ErrJoint, c.at))
		shapeless(t, c.what+", where it is nowhere", f, numbers("1 -1 0"), c.l, fault(api.ErrJoint, c.at))
		shapeless(t, c.what+", behind the count", f, numbers("1 -1"), c.l, fault(api.ErrCount, 9))
	}
}
