package still_test

import (
	"fmt"
	"reflect"
	"strings"
	"testing"

	"rafter/api"
	"rafter/rig"
	"rafter/still"
)

func fault(code api.Errno, at int) api.Fault { return api.Fault{Code: code, At: at} }

func spot(x, y api.Q) api.Spot { return api.Spot{X: x, Y: y} }

func bar(a, b int) api.Bar {
	return api.Bar{A: a, B: b, C: "1", E: "0", Least: "-1", Most: "1"}
}

func hold(joint, way int) api.Hold { return api.Hold{Joint: joint, Way: way, By: "0"} }

func load(joint int, x, y api.Q) api.Load { return api.Load{Joint: joint, Way: spot(x, y)} }

// drawn makes a frame of words: places as X,Y; bars as A-B; holds as a joint and x or y.
func drawn(places, bars, holds string) api.Frame {
	var f api.Frame
	for _, w := range strings.Fields(places) {
		x, y, _ := strings.Cut(w, ",")
		f.Joints = append(f.Joints, spot(api.Q(x), api.Q(y)))
	}
	for _, w := range strings.Fields(bars) {
		f.Bars = append(f.Bars, bar(int(w[0]-'0'), int(w[2]-'0')))
	}
	for _, w := range strings.Fields(holds) {
		f.Holds = append(f.Holds, hold(int(w[0]-'0'), int(w[1]-'x')+api.Along))
	}
	return f
}

const (
	triangle = "0,0 2,0 1,3/2"
	square   = "0,0 1,0 1,1 0,1"
	sides    = "0-1 1-2 2-3 3-0"
	inLine   = "0,0 1,0 3,0"
	supports = "0x 0y 1y"
	// Two triangles and three bars between: these don't meet in one place in the first case; in the second they do, in (0, 0).
	prism          = "1,0 0,1 -1,-1 2,0 0,2 -2,-1"
	prismThatMeets = "1,0 0,1 -1,-1 2,0 0,2 -2,-2"
	prismBars      = "0-1 1-2 2-0 3-4 4-5 5-3 0-3 1-4 2-5"
	// Each of three joints is joined to each of three others: in the first case all of them lie on a circle.
	onCircle = "1,0 -1,0 0,1 3/5,4/5 -3/5,4/5 5/13,-12/13"
	offOne   = "1,0 -1,0 0,1 3/5,4/5 -3/5,4/5 5/13,-11/13"
	threes   = "0-3 0-4 0-5 1-3 1-4 1-5 2-3 2-4 2-5"
)

// most has as many joints, bars and holds as may be: every joint is held in both ways.
func most() api.Frame {
	var f api.Frame
	for i := range api.MaxJoints {
		f.Joints = append(f.Joints, spot(api.Q(fmt.Sprint(i)), api.Q(fmt.Sprint(i*i))))
		f.Holds = append(f.Holds, hold(i, api.Along), hold(i, api.Up))
	}
	for i := range api.MaxBars {
		f.Bars = append(f.Bars, bar(i%api.MaxJoints, (i+1+i/api.MaxJoints)%api.MaxJoints))
	}
	return f
}

func TestCounts(t *testing.T) {
	far := most().Joints
	for _, c := range []struct {
		what string
		f    api.Frame
		want [3]int
	}{
		{"a joint alone", drawn("5,7", "", ""), [3]int{0, 0, 2}},
		{"a joint, empty lists", api.Frame{Joints: []api.Spot{{}}, Bars: []api.Bar{}, Holds: []api.Hold{}}, [3]int{0, 0, 2}},
		{"a joint that is held", drawn("5,7", "", "0x 0y"), [3]int{2, 0, 0}},
		{"a joint that is held in a way", drawn("5,7", "", "0y"), [3]int{1, 0, 1}},
		{"a bar alone", drawn("0,0 1/3,1/7", "0-1", ""), [3]int{1, 0, 3}},
		{"a bar twice", drawn("0,0 1/3,1/7", "0-1 1-0", ""), [3]int{1, 1, 3}},
		{"a bar between holds", drawn("0,0 1,0", "0-1", "0x 0y 1x 1y"), [3]int{4, 1, 0}},
		{"a triangle alone", drawn(triangle, "0-1 1-2 2-0", ""), [3]int{3, 0, 3}},
		{"a triangle that is held", drawn(triangle, "0-1 1-2 2-0", supports), [3]int{6, 0, 0}},
		{"a triangle that is held once more", drawn("0,0 2,0 0,2", "0-1 1-2 2-0", "0x 0y 2x 1x"), [3]int{6, 1, 0}},
		{"a triangle on rollers", drawn(triangle, "0-1 1-2 2-0", "0y 1y 2y"), [3]int{5, 1, 1}},
		{"three in a line", drawn(inLine, "0-1 1-2 2-0", ""), [3]int{2, 1, 4}},
		{"three in a line, held", drawn(inLine, "0-1 1-2", "0x 0y 2x 2y"), [3]int{5, 1, 1}},
		{"a square", drawn(square, sides, supports), [3]int{7, 0, 1}},
		{"a square and a diagonal", drawn(square, sides+" 0-2", supports), [3]int{8, 0, 0}},
		{"a square and both", drawn(square, sides+" 0-2 1-3", supports), [3]int{8, 1, 0}},
		{"both of a square, and a joint loose", drawn(square+" 9,9", sides+" 0-2 1-3", supports), [3]int{8, 1, 2}},
		{"both of a square, and another square", drawn(square+" 2,0 2,1", sides+" 0-2 1-3 1-4 4-5 5-2", supports), [3]int{11, 1, 1}},
		{"two triangles", drawn(prism, prismBars, ""), [3]int{9, 0, 3}},
		{"two triangles, one seen from (0, 0) behind the other", drawn(prismThatMeets, prismBars, ""), [3]int{8, 1, 4}},
		{"three to three on a circle", drawn(onCircle, threes, ""), [3]int{8, 1, 4}},
		{"three to three, one off it", drawn(offOne, threes, ""), [3]int{9, 0, 3}},
		{"as many as may be", most(), [3]int{20, 24, 0}},
		{"as many joints as may be", api.Frame{Joints: far}, [3]int{0, 0, 20}},
		{"as many bars", api.Frame{Joints: far, Bars: most().Bars}, [3]int{17, 7, 3}},
		{"as many holds", api.Frame{Joints: far, Holds: most().Holds}, [3]int{20, 0, 0}},
		{"one bar as often as may be", drawn("0,0 1,2", strings.Repeat("0-1 1-0 ", api.MaxBars/2), ""), [3]int{1, 23, 3}},
	} {
		rank, stresses, motions, g := still.Counts(c.f)
		if got := [3]int{rank, stresses, motions}; got != c.want || g != (api.Fault{}) {
			t.Errorf("%s: %v %v, want %v", c.what, got, g, c.want)
		}
		if n, _ := rig.Count(c.f); n != stresses-motions {
			t.Errorf("%s: Count is %d, but %d stresses, %d motions", c.what, n, stresses, motions)
		}
	}
}

func toldStresses(l []api.Stress) []string {
	var out []string
	for _, s := range l {
		out = append(out, fmt.Sprint(s.Bars, s.Holds))
	}
	return out
}

func toldMotions(l [][]api.Spot) []string {
	var out []string
	for _, m := range l {
		var w []string
		for _, s := range m {
			w = append(w, string(s.X+","+s.Y))
		}
		out = append(out, strings.Join(w, " "))
	}
	return out
}

func isTold(t *testing.T, what string, got, want []string, g api.Fault) {
	t.Helper()
	if g != (api.Fault{}) || len(got)+len(want) > 0 && !reflect.DeepEqual(got, want) {
		t.Errorf("%s: %q %v, want %q", what, got, g, want)
	}
}

func TestStresses(t *testing.T) {
	for _, c := range []struct {
		what string
		f    api.Frame
		want []string
	}{
		{"a joint alone", drawn("5,7", "", ""), nil},
		{"holds alone", drawn("5,7", "", "0y 0x"), nil},
		{"a triangle", drawn(triangle, "0-1 1-2 2-0", supports), nil},
		{"a square", drawn(square, sides, supports), nil},
		{"a square with both diagonals", drawn(square, sides+" 0-2 1-3", supports), []string{"[-1 -1 -1 -1 1 1] [0 0 0]"}},
		{"the diagonals first", drawn(square, "0-2 1-3 "+sides, ""), []string{"[-1 -1 1 1 1 1] []"}},
		{"a bar twice", drawn("0,0 1,2", "0-1 1-0", ""), []string{"[-1 1] []"}},
		{"a bar of three", drawn("0,0 1,2", "0-1 1-0 0-1", ""), []string{"[-1 1 0] []", "[-1 0 1] []"}},
		{"in a line", drawn(inLine, "0-1 1-2 0-2", ""), []string{"[-3 -3/2 1] []"}},
		{"between holds", drawn("0,0 2,0", "0-1", "0x 0y 1x 1y"), []string{"[1/2] [-1 0 1 0]"}},
		{"between holds aslant", drawn("0,0 2,3", "0-1", "0x 0y 1x 1y"), []string{"[1/3] [-2/3 -1 2/3 1]"}},
		{"the free ones aren't last", drawn("0,0 1,2 5,5", "0-1 0-1 1-2", ""), []string{"[-1 1 0] []"}},
		{"two squares", drawn("0,0 1,0 1,1 0,1 5,0 7,0 7,1 5,1", sides+" 0-2 1-3 4-5 5-6 6-7 7-4 4-6 5-7", ""),
			[]string{"[-1 -1 -1 -1 1 1 0 0 0 0 0 0] []", "[0 0 0 0 0 0 -1 -1 -1 -1 1 1] []"}},
		{"in holds alone by bars", drawn("0,0 1,0 3,0", "0-1 1-2", "0x 1x 2x 1y"), []string{"[1 0] [-1 1 0 0]", "[1 1/2] [-1 0 1 0]"}},
	} {
		l, g := still.Stresses(c.f)
		isTold(t, c.what, toldStresses(l), c.want, g)
	}
}

func TestMotions(t *testing.T) {
	for _, c := range []struct {
		what string
		f    api.Frame
		want []string
	}{
		{"a joint alone", drawn("5,7", "", ""), []string{"1,0", "0,1"}},
		{"held along", drawn("5,7", "", "0x"), []string{"0,1"}},
		{"held up", drawn("5,7", "", "0y"), []string{"1,0"}},
		{"held in both ways", drawn("5,7", "", "0y 0x"), nil},
		{"two joints", drawn("5,7 5,7", "", ""), []string{"1,0 0,0", "0,1 0,0", "0,0 1,0", "0,0 0,1"}},
		{"a bar along", drawn("0,0 1,0", "0-1", ""), []string{"0,1 0,0", "1,0 1,0", "0,0 0,1"}},
		{"a bar aslant", drawn("0,0 2,3", "0-1", ""), []string{"-3/2,1 0,0", "1,0 1,0", "3/2,0 0,1"}},
		{"a bar on a hinge", drawn("0,0 2,3", "0-1", "0x 0y"), []string{"0,0 -3/2,1"}},
		{"a bar on a hinge, written the other way", drawn("0,0 2,3", "1-0", "0x 0y"), []string{"0,0 -3/2,1"}},
		{"a triangle", drawn(triangle, "0-1 1-2 2-0", supports), nil},
		{"a square", drawn(square, sides, supports), []string{"0,0 0,0 1,0 1,0"}},
		{"in a line", drawn(inLine, "0-1 1-2", "0x 0y 2x 2y"), []string{"0,0 0,1 0,0"}},
		{"on rollers", drawn(triangle, "0-1 1-2 2-0", "0y 1y 2y"), []string{"1,0 1,0 1,0"}},
	} {
		l, g := still.Motions(c.f)
		isTold(t, c.what, toldMotions(l), c.want, g)
	}
}

func TestCarry(t *testing.T) {
	corner := drawn("0,0 1,0 0,1", "0-1 1-2 2-0", supports)
	tilted := drawn("0,0 8/2,0 2,03/1", "0-1 0-2 1-2", supports)
	for _, c := range []struct {
		what string
		f    api.Frame
		l    []api.Load
		want string
	}{
		{"a push at the corner", corner, []api.Load{load(2, "1", "0")}, "[1 -1 1] [-1 -1 1]"},
		{"no loads", corner, nil, "[0 0 0] [0 0 0]"},
		{"loads of nothing", corner, []api.Load{load(2, "", "x"), load(0, "1/0", "-0")}, "[0 0 0] [0 0 0]"},
		{"loads that take each other away", corner, []api.Load{load(2, "1/3", "5"), load(2, "-2/6", "-5")}, "[0 0 0] [0 0 0]"},
		{"into the holds", corner, []api.Load{load(0, "2", "-3"), load(1, "0", "7/2")}, "[0 0 0] [-2 3 -7/2]"},
		{"down in the middle", tilted, []api.Load{load(2, "0", "-1")}, "[1/12 -1/6 -1/6] [0 1/2 1/2]"},
		{"in two parts", tilted, []api.Load{load(2, "0", "-1/3"), load(2, "0", "-4/6")}, "[1/12 -1/6 -1/6] [0 1/2 1/2]"},
		{"no bar, no hold, no load", drawn("1,1", "", ""), []api.Load{load(0, "0", "0")}, "[] []"},
		{"no bar", drawn("1,1", "", "0y 0x"), []api.Load{load(0, "5", "-1/2")}, "[] [1/2 -5]"},
		{"no hold", drawn("0,0 2,0", "0-1", ""), []api.Load{load(0, "-3", "0"), load(1, "3", "0")}, "[3/2] []"},
		{"what the one motion bears", drawn(square, sides, supports), []api.Load{load(2, "0", "-4")}, "[0 -4 0 0] [0 0 4]"},
	} {
		s, g := still.Carry(c.f, c.l)
		if got := fmt.Sprint(s.Bars, s.Holds); got != c.want || g != (api.Fault{}) {
			t.Errorf("%s: %s %v, want %s", c.what, got, g, c.want)
		}
	}
}

func TestNotCarried(t *testing.T) {
	swaying := drawn(square, sides, supports)
	stiff := drawn(square, sides+" 0-2 1-3", supports)
	both := drawn(square+" 9,9", sides+" 0-2 1-3", supports)
	for _, c := range []struct {
		what string
		f    api.Frame
		l    []api.Load
		want api.Errno
	}{
		{"a joint alone, X", drawn("1,1", "", ""), []api.Load{load(0, "1/9", "0")}, api.ErrNone},
		{"a joint alone, Y", drawn("1,1", "", ""), []api.Load{load(0, "0", "-1")}, api.ErrNone},
		{"a square that sways", swaying, []api.Load{load(2, "1", "0")}, api.ErrNone},
		{"a bar aside", drawn("0,0 2,0", "0-1", ""), []api.Load{load(0, "0", "1"), load(1, "0", "-1")}, api.ErrNone},
		{"more than one, no loads", stiff, nil, api.ErrFree},
		{"more than one", stiff, []api.Load{load(3, "2", "1")}, api.ErrFree},
		{"moves, but not by this, more than one", both, []api.Load{load(3, "2", "1")}, api.ErrFree},
		{"moves by this, so none", both, []api.Load{load(3, "2", "1"), load(4, "0", "1")}, api.ErrNone},
		{"as many as may be", most(), []api.Load{load(9, "1", "1")}, api.ErrFree},
	} {
		s, g := still.Carry(c.f, c.l)
		if len(s.Bars)+len(s.Holds) != 0 || g != fault(c.want, 0) {
			t.Errorf("%s: %v %v, want %v", c.what, s, g, c.want)
		}
	}
}

// What has nothing to do with rest doesn't count: how stiff bars are, how long by themselves, what they hold, and how far holds are moved.
func TestOtherNumbersDoNotCount(t *testing.T) {
	for _, f := range []api.Frame{drawn(square, sides, supports), drawn(square, sides+" 0-2 1-3", supports), drawn(triangle, "0-1 1-2 2-0", supports)} {
		g := copied(f)
		for i := range g.Bars {
			g.Bars[i].C, g.Bars[i].E, g.Bars[i].Least, g.Bars[i].Most = "7/3", "5", "0", "100"
		}
		for i := range g.Holds {
			g.Holds[i].By = api.Q(fmt.Sprint(i + 1))
		}
		l := []api.Load{load(2, "0", "-1")}
		if a, b := allOf(f, l), allOf(g, l); a != b {
			t.Errorf("%s, then %s", a, b)
		}
	}
}

func copied(f api.Frame) api.Frame {
	return api.Frame{Joints: append([]api.Spot{}, f.Joints...), Bars: append([]api.Bar{}, f.Bars...), Holds: append([]api.Hold{}, f.Holds...)}
}

// allOf tells what all calls answer.
func allOf(f api.Frame, l []api.Load) string {
	a, b, c, g1 := still.Counts(f)
	s, g2 := still.Stresses(f)
	m, g3 := still.Motions(f)
	r, g4 := still.Carry(f, l)
	return fmt.Sprint(a, b, c, g1, s, g2, m, g3, r, g4)
}
