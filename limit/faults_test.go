package limit_test

import (
	"math"
	"slices"
	"testing"

	"rafter/api"
	"rafter/limit"
)

func zeros(n int) []api.Q { return slices.Repeat([]api.Q{"0"}, n) }

// idle is a stress of 0 that has these numbers of bars and holds.
func idle(bars, holds int) api.Stress { return api.Stress{Bars: zeros(bars), Holds: zeros(holds)} }

// refused holds what all calls tell of a frame or of loads that aren't right against want, whatever else they are given.
func refused(t *testing.T, what string, f api.Frame, l []api.Load, want api.Fault) {
	t.Helper()
	if c, g := limit.Carries(f, l); c.Factor != "" || c.Stress.Bars != nil || c.Stress.Holds != nil || c.Motion != nil || g != want {
		t.Errorf("%s: Carries: %v %v, want %v", what, c, g, want)
	}
	for _, s := range []api.Stress{{}, idle(len(f.Bars), len(f.Holds)), idle(len(f.Bars)+1, len(f.Holds))} {
		notSafe(t, what, f, l, s, want)
	}
	for _, n := range []int{0, len(f.Joints), len(f.Joints) + 1} {
		notBroken(t, what, f, l, slices.Repeat([]api.Spot{spot("1", "1")}, n), want)
	}
}

func notSafe(t *testing.T, what string, f api.Frame, l []api.Load, s api.Stress, want api.Fault) {
	t.Helper()
	for _, factor := range []api.Q{"0", "1", "x"} {
		if ok, g := limit.Safe(f, l, factor, s); ok || g != want {
			t.Errorf("%s: Safe: %v %v, want %v", what, ok, g, want)
		}
	}
}

func notBroken(t *testing.T, what string, f api.Frame, l []api.Load, m []api.Spot, want api.Fault) {
	t.Helper()
	if q, g := limit.Breaks(f, l, m); q != "" || g != want {
		t.Errorf("%s: Breaks: %q %v, want %v", what, q, g, want)
	}
}

// everywhere does the same of a frame that isn't right, with any loads.
func everywhere(t *testing.T, what string, f api.Frame, want api.Fault) {
	t.Helper()
	for _, l := range [][]api.Load{nil, {load(0, "1", "1")}, {load(-1, "1", "1")}, make([]api.Load, api.MaxLoads+1)} {
		refused(t, what, f, l, want)
	}
}

func TestFaultsOfFrames(t *testing.T) {
	many := fault(api.ErrMany, 0)
	everywhere(t, "nothing", api.Frame{}, many)
	everywhere(t, "no joint", api.Frame{Joints: []api.Spot{}, Bars: []api.Bar{{A: 0, B: 1}}, Holds: []api.Hold{{Way: 9}}}, many)
	for _, c := range []struct {
		what string
		turn func(f *api.Frame)
	}{
		{"one joint more", func(f *api.Frame) { f.Joints = append(f.Joints, spot("77", "0")) }},
		{"one bar more", func(f *api.Frame) { f.Bars = append(f.Bars, f.Bars[0]) }},
		{"one hold more", func(f *api.Frame) { f.Holds = append(f.Holds, f.Holds[0]) }},
		{"many ahead of a bar's joint", func(f *api.Frame) { f.Joints = append(f.Joints, spot("77", "0")); f.Bars[0].A = -1 }},
	} {
		f := most()
		c.turn(&f)
		everywhere(t, c.what, f, many)
	}
	for _, c := range []struct {
		what string
		turn func(f *api.Frame)
		want api.Fault
	}{
		{"A is no joint", func(f *api.Frame) { f.Bars[1].A = 4 }, fault(api.ErrJoint, 1)},
		{"B is no joint", func(f *api.Frame) { f.Bars[3].B = math.MinInt }, fault(api.ErrJoint, 3)},
		{"one joint twice", func(f *api.Frame) { f.Bars[2].B = 2 }, fault(api.ErrValue, 2)},
		{"at one place", func(f *api.Frame) { f.Joints[1] = spot("-0", "0/3") }, fault(api.ErrValue, 0)},
		{"not stiff", func(f *api.Frame) { f.Bars[2].C = "0" }, fault(api.ErrValue, 2)},
		{"Least above 0", func(f *api.Frame) { f.Bars[2].Least = "1/99999" }, fault(api.ErrValue, 2)},
		{"Most below 0", func(f *api.Frame) { f.Bars[3].Most = "-1/99999" }, fault(api.ErrValue, 3)},
		{"a hold of no joint", func(f *api.Frame) { f.Holds[1].Joint = 4 }, fault(api.ErrJoint, 5)},
		{"a hold in no way", func(f *api.Frame) { f.Holds[2].Way = 3 }, fault(api.ErrKind, 6)},
		{"a hold twice", func(f *api.Frame) { f.Holds[1].Way = api.Along }, fault(api.ErrTwice, 5)},
		{"the first bar of two", func(f *api.Frame) { f.Bars[1].Most, f.Bars[2].A = "-1", -1 }, fault(api.ErrValue, 1)},
		{"the joint ahead of the value", func(f *api.Frame) { f.Bars[2].Least, f.Bars[2].A = "1", -1 }, fault(api.ErrJoint, 2)},
		{"bars ahead of holds", func(f *api.Frame) { f.Bars[3].C, f.Holds[0].Joint = "", -1 }, fault(api.ErrValue, 3)},
	} {
		f := drawn(square, sides, supports)
		c.turn(&f)
		everywhere(t, c.what, f, c.want)
	}
}

func TestFaultsOfLoads(t *testing.T) {
	f := drawn(square, sides+" 0-2", supports)
	full := slices.Repeat([]api.Load{load(2, "1", "0")}, api.MaxLoads)
	if got := heldAgainst(t, f, full); got.Factor != "1/20" {
		t.Errorf("as many loads as may be: %v", got)
	}
	refused(t, "one load more", f, append(slices.Clone(full), load(2, "-20", "0")), fault(api.ErrMany, 8))
	refused(t, "one more ahead of no joint", f, append([]api.Load{load(9, "0", "0")}, full...), fault(api.ErrMany, 8))
	refused(t, "one more, no bars, no holds", api.Frame{Joints: []api.Spot{{}}}, make([]api.Load, api.MaxLoads+1), fault(api.ErrMany, 0))
	fine := load(1, "1", "2")
	for _, c := range []struct {
		what string
		l    []api.Load
		at   int
	}{
		{"the first, above", []api.Load{load(4, "0", "0")}, 8},
		{"the first, below", []api.Load{load(-1, "0", "0"), fine}, 8},
		{"the second", []api.Load{fine, load(math.MaxInt, "1", "0")}, 9},
		{"the third", []api.Load{fine, fine, load(math.MinInt, "1", "0"), fine}, 10},
		{"the first of two", []api.Load{fine, load(4, "1", "0"), load(5, "1", "0")}, 9},
		{"the last of as many as may be", append(slices.Clone(full[1:]), load(4, "", "")), 27},
	} {
		refused(t, c.what, f, c.l, fault(api.ErrJoint, c.at))
	}
}

// Lists that aren't as long as they must be are told of behind the loads' faults (see refused), and ahead of all else.
func TestFaultsOfCounts(t *testing.T) {
	count := fault(api.ErrCount, 8)
	f := drawn(square, sides+" 0-2", supports)
	for _, l := range [][]api.Load{nil, pulls("2=1,0 3=0,1"), pulls("0=1,1")} {
		for _, n := range [][2]int{{0, 0}, {0, 3}, {5, 0}, {4, 3}, {6, 3}, {5, 2}, {5, 4}, {4, 4}, {6, 2}, {3, 5}, {8, 0}, {0, 8}, {100, 100}} {
			notSafe(t, "counts", f, l, idle(n[0], n[1]), count)
		}
		notSafe(t, "nil", f, l, api.Stress{}, count)
		for _, n := range []int{0, 1, 3, 5, 8, 100} {
			for _, s := range []api.Spot{{}, spot("1", "1"), spot("-1", "x")} {
				notBroken(t, "counts", f, l, slices.Repeat([]api.Spot{s}, n), count)
			}
		}
		notBroken(t, "nil", f, l, nil, count)
	}
	alone := drawn("5,7", "", "")
	notSafe(t, "a bar too many", alone, nil, idle(1, 0), fault(api.ErrCount, 0))
	notSafe(t, "a hold too many", alone, nil, idle(0, 1), fault(api.ErrCount, 0))
	notBroken(t, "none", alone, pulls("0=1,0"), []api.Spot{}, fault(api.ErrCount, 0))
	notSafe(t, "as many as may be, less one", most(), nil, idle(api.MaxBars, api.MaxHolds-1), fault(api.ErrCount, api.MaxBars+api.MaxHolds))
}
