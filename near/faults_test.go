package near_test

import (
	"math"
	"slices"
	"testing"

	"rafter/api"
	"rafter/near"
)

// everywhere holds what both calls tell of a frame that isn't right against want, however many stresses there are.
func everywhere(t *testing.T, what string, f api.Frame, want api.Fault) {
	t.Helper()
	if l, g := near.Long(f); l != nil || g != want {
		t.Errorf("%s: Long: %v %v, want %v", what, l, g, want)
	}
	for _, n := range []int{0, 1, len(f.Bars), len(f.Bars) + 1} {
		notPulled(t, what, f, slices.Repeat([]api.Q{"1"}, n), want)
	}
}

func notPulled(t *testing.T, what string, f api.Frame, bars []api.Q, want api.Fault) {
	t.Helper()
	if l, g := near.Pulls(f, bars); l != nil || g != want {
		t.Errorf("%s: Pulls by %d: %v %v, want %v", what, len(bars), l, g, want)
	}
}

func TestTooManyAndTooFew(t *testing.T) {
	many := fault(api.ErrMany, 0)
	everywhere(t, "nothing", api.Frame{}, many)
	everywhere(t, "no joint", api.Frame{Joints: []api.Spot{}, Bars: []api.Bar{{A: 0, B: 1}}, Holds: []api.Hold{{Way: 9}}}, many)
	for _, c := range []struct {
		what string
		turn func(f *api.Frame)
	}{
		{"one joint more", func(f *api.Frame) { f.Joints = append(f.Joints, spot("77", "0")) }},
		{"one bar more", func(f *api.Frame) { f.Bars = append(f.Bars, f.Bars[0]) }},
		{"one hold more", func(f *api.Frame) { f.Holds = append(f.Holds, f.Holds[0]) }},
		{"many ahead of a bar's joint", func(f *api.Frame) { f.Joints = append(f.Joints, spot("77", "0")); f.Bars[0].A = -1 }},
	} {
		f := most()
		c.turn(&f)
		everywhere(t, c.what, f, many)
	}
}

func TestFaultsOfFrames(t *testing.T) {
	for _, c := range []struct {
		what string
		turn func(f *api.Frame)
		want api.Fault
	}{
		{"A is no joint", func(f *api.Frame) { f.Bars[1].A = 4 }, fault(api.ErrJoint, 1)},
		{"A is far from any joint", func(f *api.Frame) { f.Bars[0].A = math.MaxInt }, fault(api.ErrJoint, 0)},
		{"B is no joint", func(f *api.Frame) { f.Bars[3].B = math.MinInt }, fault(api.ErrJoint, 3)},
		{"one joint twice", func(f *api.Frame) { f.Bars[2].B = 2 }, fault(api.ErrValue, 2)},
		{"at one place", func(f *api.Frame) { f.Joints[1] = spot("-0", "0/3") }, fault(api.ErrValue, 0)},
		{"not stiff", func(f *api.Frame) { f.Bars[2].C = "0" }, fault(api.ErrValue, 2)},
		{"less than not stiff", func(f *api.Frame) { f.Bars[3].C = "-1/2" }, fault(api.ErrValue, 3)},
		{"Least above", func(f *api.Frame) { f.Bars[2].Least = "1/7" }, fault(api.ErrValue, 2)},
		{"Most below", func(f *api.Frame) { f.Bars[3].Most = "-1" }, fault(api.ErrValue, 3)},
		{"a hold of no joint", func(f *api.Frame) { f.Holds[1].Joint = 4 }, fault(api.ErrJoint, 5)},
		{"a hold in no way", func(f *api.Frame) { f.Holds[2].Way = 3 }, fault(api.ErrKind, 6)},
		{"a hold twice", func(f *api.Frame) { f.Holds[1].Way = api.Along }, fault(api.ErrTwice, 5)},
		{"the first bar of two", func(f *api.Frame) { f.Bars[1].C, f.Bars[2].A = "-1", -1 }, fault(api.ErrValue, 1)},
		{"a joint ahead of a value", func(f *api.Frame) { f.Bars[1].C, f.Bars[1].A = "-1", -1 }, fault(api.ErrJoint, 1)},
		{"a bar ahead of a hold", func(f *api.Frame) { f.Bars[3].C, f.Holds[0].Way = "0", 0 }, fault(api.ErrValue, 3)},
		{"the first hold of two", func(f *api.Frame) { f.Holds[1].Way, f.Holds[2].Joint = 0, -1 }, fault(api.ErrKind, 5)},
		{"a joint ahead of a kind", func(f *api.Frame) { f.Holds[1].Way, f.Holds[1].Joint = 0, -1 }, fault(api.ErrJoint, 5)},
	} {
		f := drawn(square, sides, supports)
		c.turn(&f)
		everywhere(t, c.what, f, c.want)
	}
}

func TestFaultsOfStresses(t *testing.T) {
	for _, c := range []struct {
		what string
		f    api.Frame
		n    int
		at   int
	}{
		{"none", drawn(square, sides, supports), 0, 7},
		{"one too few", drawn(square, sides, supports), 3, 7},
		{"one too many", drawn(square, sides, supports), 5, 7},
		{"as many as bars and holds", drawn(square, sides, supports), 7, 7},
		{"no holds", drawn(square, sides, ""), 3, 4},
		{"no bars", drawn(square, "", supports), 1, 3},
		{"no bars, no holds", drawn(square, "", ""), 1, 0},
		{"one less than may be", most(), api.MaxBars - 1, api.MaxBars + api.MaxHolds},
		{"one more than may be", most(), api.MaxBars + 1, api.MaxBars + api.MaxHolds},
		{"very many", drawn("0,0 1,0", "0-1", "0x"), 100000, 2},
	} {
		notPulled(t, c.what, c.f, slices.Repeat([]api.Q{"1"}, c.n), fault(api.ErrCount, c.at))
	}
	notPulled(t, "an empty list", drawn(square, sides, supports), []api.Q{}, fault(api.ErrCount, 7))
}
