package give_test

import (
	"math"
	"slices"
	"testing"

	"rafter/api"
	"rafter/give"
)

// everywhere holds what both calls tell of a frame that isn't right against want, whatever else they are given.
func everywhere(t *testing.T, what string, f api.Frame, want api.Fault) {
	t.Helper()
	for _, l := range [][]api.Load{nil, {load(0, "1", "1")}, {load(-1, "1", "1")}, make([]api.Load, api.MaxLoads+1)} {
		refused(t, what, f, l, want)
	}
	for _, n := range []int{0, 1, len(f.Bars), len(f.Bars) + 1} {
		notHeld(t, what, f, slices.Repeat([]api.Q{"1"}, n), want)
	}
}

func refused(t *testing.T, what string, f api.Frame, l []api.Load, want api.Fault) {
	t.Helper()
	if m, g := give.Move(f, l); m.Joints != nil || m.Stress.Bars != nil || m.Stress.Holds != nil || g != want {
		t.Errorf("%s: Move: %v %v, want %v", what, m, g, want)
	}
}

func notHeld(t *testing.T, what string, f api.Frame, bars []api.Q, want api.Fault) {
	t.Helper()
	if e, g := give.Energy(f, bars); e != "" || g != want {
		t.Errorf("%s: Energy: %q %v, want %v", what, e, g, want)
	}
}

func TestFaultsOfFrames(t *testing.T) {
	many := fault(api.ErrMany, 0)
	everywhere(t, "nothing", api.Frame{}, many)
	everywhere(t, "no joint", api.Frame{Joints: []api.Spot{}, Bars: []api.Bar{{A: 0, B: 1}}, Holds: []api.Hold{{Way: 9}}}, many)
	for _, c := range []struct {
		what string
		turn func(f *api.Frame)
	}{
		{"one joint more", func(f *api.Frame) { f.Joints = append(f.Joints, spot("77", "0")) }},
		{"one bar more", func(f *api.Frame) { f.Bars = append(f.Bars, f.Bars[0]) }},
		{"one hold more", func(f *api.Frame) { f.Holds = append(f.Holds, f.Holds[0]) }},
		{"many ahead of a bar's joint", func(f *api.Frame) { f.Joints = append(f.Joints, spot("77", "0")); f.Bars[0].A = -1 }},
	} {
		f := most()
		c.turn(&f)
		everywhere(t, c.what, f, many)
	}
	for _, c := range []struct {
		what string
		turn func(f *api.Frame)
		want api.Fault
	}{
		{"A is no joint", func(f *api.Frame) { f.Bars[1].A = 4 }, fault(api.ErrJoint, 1)},
		{"B is no joint", func(f *api.Frame) { f.Bars[3].B = math.MinInt }, fault(api.ErrJoint, 3)},
		{"one joint twice", func(f *api.Frame) { f.Bars[2].B = 2 }, fault(api.ErrValue, 2)},
		{"at one place", func(f *api.Frame) { f.Joints[1] = spot("-0", "0/3") }, fault(api.ErrValue, 0)},
		{"not stiff", func(f *api.Frame) { f.Bars[2].C = "0" }, fault(api.ErrValue, 2)},
		{"stiff by no number", func(f *api.Frame) { f.Bars[2].C = "1/0" }, fault(api.ErrValue, 2)},
		{"less than not stiff", func(f *api.Frame) { f.Bars[3].C = "-1/2" }, fault(api.ErrValue, 3)},
		{"Least above", func(f *api.Frame) { f.Bars[2].Least = "1/7" }, fault(api.ErrValue, 2)},
		{"Most below", func(f *api.Frame) { f.Bars[3].Most = "-1" }, fault(api.ErrValue, 3)},
		{"a hold of no joint", func(f *api.Frame) { f.Holds[1].Joint = 4 }, fault(api.ErrJoint, 5)},
		{"a hold in no way", func(f *api.Frame) { f.Holds[2].Way = 3 }, fault(api.ErrKind, 6)},
		{"a hold twice", func(f *api.Frame) { f.Holds[1].Way = api.Along }, fault(api.ErrTwice, 5)},
		{"a hold twice, moved elsewhere", func(f *api.Frame) { f.Holds[1].Way, f.Holds[1].By = api.Along, "1" }, fault(api.ErrTwice, 5)},
		{"the first bar of two", func(f *api.Frame) { f.Bars[1].C, f.Bars[2].A = "-1", -1 }, fault(api.ErrValue, 1)},
		{"the joint ahead of the value", func(f *api.Frame) { f.Bars[2].C, f.Bars[2].A = "-1", -1 }, fault(api.ErrJoint, 2)},
		{"bars ahead of holds", func(f *api.Frame) { f.Bars[3].C, f.Holds[0].Joint = "", -1 }, fault(api.ErrValue, 3)},
	} {
		f := drawn(square, sides, supports)
		c.turn(&f)
		everywhere(t, c.what, f, c.want)
	}
}

func TestFaultsOfLoads(t *testing.T) {
	f := drawn(square, sides+" 0-2", supports)
	full := slices.Repeat([]api.Load{load(2, "1", "0")}, api.MaxLoads)
	more := append(slices.Clone(full), load(2, "-20", "0"))
	refused(t, "one load more", f, more, fault(api.ErrMany, 8))
	refused(t, "one more ahead of no joint", f, append([]api.Load{load(9, "0", "0")}, full...), fault(api.ErrMany, 8))
	refused(t, "one more, no bars, no holds", api.Frame{Joints: []api.Spot{{}}}, make([]api.Load, api.MaxLoads+1), fault(api.ErrMany, 0))
	fine := load(1, "1", "2")
	for _, c := range []struct {
		what string
		l    []api.Load
		at   int
	}{
		{"the first, above", []api.Load{load(4, "0", "0")}, 8},
		{"the first, below", []api.Load{load(-1, "0", "0"), fine}, 8},
		{"the second", []api.Load{fine, load(math.MaxInt, "1", "0")}, 9},
		{"the third", []api.Load{fine, fine, load(math.MinInt, "1", "0"), fine}, 10},
		{"the first of two", []api.Load{fine, load(4, "1", "0"), load(5, "1", "0")}, 9},
		{"the last of as many as may be", append(slices.Clone(full[1:]), load(4, "", "")), 27},
	} {
		refused(t, c.what, f, c.l, fault(api.ErrJoint, c.at))
	}
}

// The loads' faults go ahead of there being none, or more than one.
func TestLoadsAheadOfNone(t *testing.T) {
	swaying := drawn(square, sides, supports)
	refused(t, "none", swaying, []api.Load{load(2, "1", "0"), load(4, "1", "0")}, fault(api.ErrJoint, 8))
	refused(t, "more than one", swaying, []api.Load{load(2, "0", "1"), load(4, "1", "0")}, fault(api.ErrJoint, 8))
	refused(t, "many", swaying, make([]api.Load, 99), fault(api.ErrMany, 7))
}

func TestFaultsOfStresses(t *testing.T) {
	for _, c := range []struct {
		what string
		f    api.Frame
		n    int
		at   int
	}{
		{"none", drawn(square, sides, supports), 0, 7},
		{"one too few", drawn(square, sides, supports), 3, 7},
		{"one too many", drawn(square, sides, supports), 5, 7},
		{"as many as bars and holds", drawn(square, sides, supports), 7, 7},
		{"no holds", drawn(square, sides, ""), 3, 4},
		{"no bars", drawn(square, "", supports), 1, 3},
		{"no bars, no holds", drawn(square, "", ""), 1, 0},
		{"as many bars as may be", most(), api.MaxBars + 1, api.MaxBars + api.MaxHolds},
		{"very many", drawn("0,0 1,0", "0-1", "0x"), 100000, 2},
	} {
		notHeld(t, c.what, c.f, slices.Repeat([]api.Q{"1"}, c.n), fault(api.ErrCount, c.at))
	}
}
