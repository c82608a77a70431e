package rig_test

import (
	"fmt"
	"math"
	"reflect"
	"slices"
	"strings"
	"testing"

	"rafter/api"
	"rafter/rig"
)

func fault(code api.Errno, at int) api.Fault { return api.Fault{Code: code, At: at} }

func spot(x, y api.Q) api.Spot { return api.Spot{X: x, Y: y} }

func bar(a, b int) api.Bar {
	return api.Bar{A: a, B: b, C: "1", E: "0", Least: "-1", Most: "1"}
}

func hold(joint, way int) api.Hold { return api.Hold{Joint: joint, Way: way, By: "0"} }

// truss has 4 joints, 5 bars and 3 holds: nothing is wrong with it.
func truss() api.Frame {
	return api.Frame{
		Joints: []api.Spot{spot("0", "0"), spot("2", "0"), spot("1", "3/2"), spot("3", "3/2")},
		Bars:   []api.Bar{bar(0, 1), bar(0, 2), bar(1, 2), bar(3, 1), bar(2, 3)},
		Holds:  []api.Hold{hold(0, api.Along), hold(0, api.Up), hold(1, api.Up)},
	}
}

// most has as many joints, bars and holds as may be: every joint is held in both ways.
func most() api.Frame {
	var f api.Frame
	for i := range api.MaxJoints {
		f.Joints = append(f.Joints, spot(api.Q(fmt.Sprint(i)), api.Q(fmt.Sprint(i*i))))
		f.Holds = append(f.Holds, hold(i, api.Along), hold(i, api.Up))
	}
	for i := range api.MaxBars {
		f.Bars = append(f.Bars, bar(i%api.MaxJoints, (i+1+i/api.MaxJoints)%api.MaxJoints))
	}
	return f
}

func turned(f api.Frame, turn func(f *api.Frame)) api.Frame {
	turn(&f)
	return f
}

// everywhere holds what all calls that are given a frame tell of it against want.
func everywhere(t *testing.T, what string, f api.Frame, want api.Fault) {
	t.Helper()
	if got := rig.Check(f); got != want {
		t.Errorf("%s: Check: %v, want %v", what, got, want)
	}
	n, got := rig.Count(f)
	if got != want || want.Code != api.OK && n != 0 {
		t.Errorf("%s: Count: %d %v, want %v", what, n, got, want)
	}
	s, got := rig.Print(f)
	if got != want || want.Code != api.OK && s != "" {
		t.Errorf("%s: Print: %q %v, want %v", what, s, got, want)
	}
}

func TestRightFrames(t *testing.T) {
	everywhere(t, "a truss", truss(), api.Fault{})
	everywhere(t, "as many as may be", most(), api.Fault{})
	everywhere(t, "one joint", api.Frame{Joints: []api.Spot{{}}}, api.Fault{})
	everywhere(t, "empty lists", api.Frame{Joints: []api.Spot{{}}, Bars: []api.Bar{}, Holds: []api.Hold{}}, api.Fault{})
	for what, turn := range map[string]func(f *api.Frame){
		"joints at one place without a bar": func(f *api.Frame) { f.Joints = append(f.Joints, f.Joints[0]) },
		"one bar twice":                     func(f *api.Frame) { f.Bars = append(f.Bars, bar(0, 1), bar(1, 0)) },
		"one X":                             func(f *api.Frame) { f.Joints[1] = spot("0", "1") },
		"one Y":                             func(f *api.Frame) { f.Joints[1] = spot("1/3", "0/7") },
		"limits of 0":                       func(f *api.Frame) { f.Bars[0].Least, f.Bars[0].Most = "0", "-0" },
		"limits that are no fractions":      func(f *api.Frame) { f.Bars[0].Least, f.Bars[0].Most = "1.5", "-" },
		"limits over 0":                     func(f *api.Frame) { f.Bars[0].Least, f.Bars[0].Most = "1/0", "-1/0" },
		"the least above nothing":           func(f *api.Frame) { f.Bars[0].C = api.Q("1/" + strings.Repeat("9", 300)) },
		"longer by itself, or shorter":      func(f *api.Frame) { f.Bars[0].E, f.Bars[1].E = "-5", "7/2" },
		"moved":                             func(f *api.Frame) { f.Holds[0].By, f.Holds[1].By = "-5", "words" },
	} {
		everywhere(t, what, turned(truss(), turn), api.Fault{})
	}
}

func TestTooMany(t *testing.T) {
	many := fault(api.ErrMany, 0)
	everywhere(t, "nothing", api.Frame{}, many)
	everywhere(t, "no joints", api.Frame{Joints: []api.Spot{}, Bars: []api.Bar{bar(0, 1)}, Holds: []api.Hold{hold(0, 9)}}, many)
	for what, turn := range map[string]func(f *api.Frame){
		"joints":                 func(f *api.Frame) { f.Joints = append(f.Joints, spot("77", "0")) },
		"bars":                   func(f *api.Frame) { f.Bars = append(f.Bars, bar(0, 1)) },
		"holds":                  func(f *api.Frame) { f.Holds = append(f.Holds, hold(0, api.Up)) },
		"joints ahead of a bar":  func(f *api.Frame) { f.Joints = append(f.Joints, spot("77", "0")); f.Bars[0].A = -1 },
		"holds ahead of a value": func(f *api.Frame) { f.Holds = append(f.Holds, hold(0, api.Up)); f.Bars[0].C = "0" },
	} {
		everywhere(t, what, turned(most(), turn), many)
	}
}

func TestFaultsOfBars(t *testing.T) {
	for _, c := range []struct {
		what string
		turn func(f *api.Frame)
		want api.Fault
	}{
		{"A below", func(f *api.Frame) { f.Bars[0].A = -1 }, fault(api.ErrJoint, 0)},
		{"A above", func(f *api.Frame) { f.Bars[4].A = 4 }, fault(api.ErrJoint, 4)},
		{"B below", func(f *api.Frame) { f.Bars[2].B = math.MinInt }, fault(api.ErrJoint, 2)},
		{"B above", func(f *api.Frame) { f.Bars[1].B = math.MaxInt }, fault(api.ErrJoint, 1)},
		{"from a joint to itself", func(f *api.Frame) { f.Bars[3].B = 3 }, fault(api.ErrValue, 3)},
		{"no length", func(f *api.Frame) { f.Joints[3] = spot("2", "0") }, fault(api.ErrValue, 3)},
		{"no length, written otherwise", func(f *api.Frame) { f.Joints[3] = spot("06/3", "x") }, fault(api.ErrValue, 3)},
		{"C of 0", func(f *api.Frame) { f.Bars[1].C = "0" }, fault(api.ErrValue, 1)},
		{"C below", func(f *api.Frame) { f.Bars[1].C = "-1/1000" }, fault(api.ErrValue, 1)},
		{"C is no fraction", func(f *api.Frame) { f.Bars[1].C = "+1" }, fault(api.ErrValue, 1)},
		{"C over 0", func(f *api.Frame) { f.Bars[1].C = "5/0" }, fault(api.ErrValue, 1)},
		{"no C", func(f *api.Frame) { f.Bars[1].C = "" }, fault(api.ErrValue, 1)},
		{"Least above", func(f *api.Frame) { f.Bars[2].Least = "1/1000" }, fault(api.ErrValue, 2)},
		{"Most below", func(f *api.Frame) { f.Bars[4].Most = "-1/1000" }, fault(api.ErrValue, 4)},
		// several
		{"the joint ahead of the value", func(f *api.Frame) { f.Bars[2].C, f.Bars[2].B = "0", 9 }, fault(api.ErrJoint, 2)},
		{"the value of an earlier bar", func(f *api.Frame) { f.Bars[1].Most, f.Bars[2].A = "-1", 9 }, fault(api.ErrValue, 1)},
		{"the joint of an earlier bar", func(f *api.Frame) { f.Bars[1].A, f.Bars[0].B = 9, -1 }, fault(api.ErrJoint, 0)},
		{"bars ahead of holds", func(f *api.Frame) { f.Bars[4].C, f.Holds[0].Joint = "0", -1 }, fault(api.ErrValue, 4)},
	} {
		everywhere(t, c.what, turned(truss(), c.turn), c.want)
	}
}

func TestFaultsOfHolds(t *testing.T) {
	for _, c := range []struct {
		what string
		turn func(f *api.Frame)
		want api.Fault
	}{
		{"joint below", func(f *api.Frame) { f.Holds[0].Joint = -1 }, fault(api.ErrJoint, 5)},
		{"joint above", func(f *api.Frame) { f.Holds[2].Joint = 4 }, fault(api.ErrJoint, 7)},
		{"way 0", func(f *api.Frame) { f.Holds[1].Way = 0 }, fault(api.ErrKind, 6)},
		{"way 3", func(f *api.Frame) { f.Holds[1].Way = 3 }, fault(api.ErrKind, 6)},
		{"way below", func(f *api.Frame) { f.Holds[1].Way = -1 }, fault(api.ErrKind, 6)},
		{"twice Y", func(f *api.Frame) { f.Holds[2].Joint = 0 }, fault(api.ErrTwice, 7)},
		{"twice X", func(f *api.Frame) { f.Holds[1].Way = api.Along }, fault(api.ErrTwice, 6)},
		{"twice, moved otherwise", func(f *api.Frame) { f.Holds[2] = api.Hold{Joint: 0, Way: api.Along, By: "3"} }, fault(api.ErrTwice, 7)},
		{"without bars", func(f *api.Frame) { f.Bars, f.Holds[2].Joint = nil, 0 }, fault(api.ErrTwice, 2)},
		// several
		{"the joint ahead of the way", func(f *api.Frame) { f.Holds[1] = hold(4, 0) }, fault(api.ErrJoint, 6)},
		{"no joint, twice", func(f *api.Frame) { f.Holds[1], f.Holds[2] = hold(4, 1), hold(4, 1) }, fault(api.ErrJoint, 6)},
		{"no way, twice", func(f *api.Frame) { f.Holds[0], f.Holds[1] = hold(0, 7), hold(0, 7) }, fault(api.ErrKind, 5)},
		{"the way of an earlier hold", func(f *api.Frame) { f.Holds[0].Way, f.Holds[1].Joint = 5, 5 }, fault(api.ErrKind, 5)},
		{"twice ahead of a joint", func(f *api.Frame) { f.Holds[1].Way, f.Holds[2].Joint = api.Along, 5 }, fault(api.ErrTwice, 6)},
	} {
		everywhere(t, c.what, turned(truss(), c.turn), c.want)
	}
}

func TestCount(t *testing.T) {
	for _, c := range []struct {
		what string
		f    api.Frame
		want int
	}{
		{"a truss", truss(), 0},
		{"one joint", api.Frame{Joints: []api.Spot{{}}}, -2},
		{"as many as may be", most(), 24},
		{"joints alone", api.Frame{Joints: most().Joints}, -20},
		{"a bar more", turned(truss(), func(f *api.Frame) { f.Bars = append(f.Bars, bar(0, 3)) }), 1},
		{"a hold less", turned(truss(), func(f *api.Frame) { f.Holds = f.Holds[:2] }), -1},
	} {
		if n, e := rig.Count(c.f); n != c.want || e != (api.Fault{}) {
			t.Errorf("%s: %d %v, want %d", c.what, n, e, c.want)
		}
	}
}

// copied has every list of f with some room behind it, filled like the list.
func copied(f api.Frame) api.Frame {
	return api.Frame{Joints: slices.Repeat(f.Joints, 2), Bars: slices.Repeat(f.Bars, 2), Holds: slices.Repeat(f.Holds, 2)}
}

func TestOnlyRead(t *testing.T) {
	wrong := turned(truss(), func(f *api.Frame) { f.Holds[2].Joint = 0 })
	plain := turned(truss(), func(f *api.Frame) { f.Joints[2], f.Bars[1].C, f.Holds[0].By = spot("-0", "010/4"), "4/2", "words" })
	for _, f := range []api.Frame{truss(), most(), wrong, plain} {
		given := copied(f)
		part := api.Frame{Joints: given.Joints[:len(f.Joints)], Bars: given.Bars[:len(f.Bars)], Holds: given.Holds[:len(f.Holds)]}
		first := rig.Check(part)
		rig.Count(part)
		rig.Print(part)
		if again := rig.Check(part); again != first {
			t.Errorf("Check: %v, then %v", first, again)
		}
		if !reflect.DeepEqual(given, copied(f)) {
			t.Errorf("what was handed in has become %v", given)
		}
	}
}

func TestCheckLoads(t *testing.T) {
	fine := api.Load{Joint: 3, Way: spot("words", "1/0")}
	none := api.Load{Joint: 4}
	for _, c := range []struct {
		what string
		l    []api.Load
		want api.Fault
	}{
		{"none", nil, api.Fault{}},
		{"an empty list", []api.Load{}, api.Fault{}},
		{"as many as may be", slices.Repeat([]api.Load{fine}, api.MaxLoads), api.Fault{}},
		{"one more", slices.Repeat([]api.Load{fine}, api.MaxLoads+1), fault(api.ErrMany, 8)},
		{"one more, at no joint", slices.Repeat([]api.Load{none}, api.MaxLoads+1), fault(api.ErrMany, 8)},
		{"the first at no joint", []api.Load{none, fine}, fault(api.ErrJoint, 8)},
		{"the third at no joint", []api.Load{fine, {}, none, none}, fault(api.ErrJoint, 10)},
		{"below", []api.Load{fine, {Joint: -1}}, fault(api.ErrJoint, 9)},
		{"far below and above", []api.Load{fine, {Joint: math.MinInt}, {Joint: math.MaxInt}}, fault(api.ErrJoint, 9)},
	} {
		if got := rig.CheckLoads(truss(), c.l); got != c.want {
			t.Errorf("%s: %v, want %v", c.what, got, c.want)
		}
	}
	bare := api.Frame{Joints: []api.Spot{{}}}
	if got := rig.CheckLoads(bare, []api.Load{{}, {Joint: 1}}); got != fault(api.ErrJoint, 1) {
		t.Errorf("no bars, no holds: %v", got)
	}
}

// truss holds joint 0 in X, then in Y, and joint 1 in Y.
func TestCheckMotion(t *testing.T) {
	still := make([]api.Spot, 4)
	for _, c := range []struct {
		what   string
		motion []api.Spot
		want   api.Fault
	}{
		{"none", nil, fault(api.ErrCount, 8)},
		{"too few", still[1:], fault(api.ErrCount, 8)},
		{"too many", make([]api.Spot, 5), fault(api.ErrCount, 8)},
		{"too many, what is held moves", slices.Repeat([]api.Spot{spot("1", "1")}, 5), fault(api.ErrCount, 8)},
		{"nothing moves", still, api.Fault{}},
		{"what isn't held moves", []api.Spot{{}, spot("1", ""), spot("-1/2", "5"), spot("0", "7")}, api.Fault{}},
		{"what counts as 0", []api.Spot{spot("x", "-0"), spot("1", "1/0"), {}, {}}, api.Fault{}},
		{"the first hold", []api.Spot{spot("-1/99", "0"), {}, {}, {}}, fault(api.ErrValue, 5)},
		{"the second", []api.Spot{spot("0", "1"), {}, {}, {}}, fault(api.ErrValue, 6)},
		{"the third", []api.Spot{{}, spot("0", "1"), {}, {}}, fault(api.ErrValue, 7)},
		{"all of them", []api.Spot{spot("1", "1"), spot("1", "1"), {}, {}}, fault(api.ErrValue, 5)},
		{"the last two", []api.Spot{spot("", "1"), spot("1", "1"), {}, {}}, fault(api.ErrValue, 6)},
	} {
		if got := rig.CheckMotion(truss(), c.motion); got != c.want {
			t.Errorf("%s: %v, want %v", c.what, got, c.want)
		}
	}
	bare := api.Frame{Joints: []api.Spot{{}}}
	if got := rig.CheckMotion(bare, []api.Spot{spot("1", "1")}); got != (api.Fault{}) {
		t.Errorf("no bars, no holds: %v", got)
	}
	if got := rig.CheckMotion(bare, nil); got != fault(api.ErrCount, 0) {
		t.Errorf("no bars, no holds, none: %v", got)
	}
}
