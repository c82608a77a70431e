package near_test

import (
	"fmt"
	"math"
	"slices"
	"strings"
	"testing"

	"rafter/api"
	"rafter/near"
)

func fault(code api.Errno, at int) api.Fault { return api.Fault{Code: code, At: at} }

func spot(x, y api.Q) api.Spot { return api.Spot{X: x, Y: y} }

// drawn makes a frame of words: places as X,Y; bars as A-B; holds as a joint and x or y.
func drawn(places, bars, holds string) api.Frame {
	var f api.Frame
	for _, w := range strings.Fields(places) {
		x, y, _ := strings.Cut(w, ",")
		f.Joints = append(f.Joints, spot(api.Q(x), api.Q(y)))
	}
	for _, w := range strings.Fields(bars) {
		f.Bars = append(f.Bars, api.Bar{A: int(w[0] - '0'), B: int(w[2] - '0'), C: "1"})
	}
	for _, w := range strings.Fields(holds) {
		f.Holds = append(f.Holds, api.Hold{Joint: int(w[0] - '0'), Way: int(w[1]-'x') + api.Along})
	}
	return f
}

const (
	square   = "0,0 1,0 1,1 0,1"
	sides    = "0-1 1-2 2-3 3-0"
	supports = "0x 0y 1y"
)

// most has as many joints, bars and holds as may be.
func most() api.Frame {
	var f api.Frame
	for i := range api.MaxJoints {
		f.Joints = append(f.Joints, spot(api.Q(fmt.Sprint(i)), api.Q(fmt.Sprint(i*i))))
		f.Holds = append(f.Holds, api.Hold{Joint: i, Way: api.Along}, api.Hold{Joint: i, Way: api.Up})
	}
	for i := range api.MaxBars {
		f.Bars = append(f.Bars, api.Bar{A: i % api.MaxJoints, B: (i + 1 + i/api.MaxJoints) % api.MaxJoints, C: "1/2"})
	}
	return f
}

// alike goes by the bits: 0 is told apart from what is below 0 and nearest to it.
func alike(a, b []float64) bool {
	return slices.EqualFunc(a, b, func(x, y float64) bool { return math.Float64bits(x) == math.Float64bits(y) })
}

func isLong(t *testing.T, what string, f api.Frame, want ...float64) {
	t.Helper()
	if l, g := near.Long(f); !alike(l, want) || g != (api.Fault{}) {
		t.Errorf("%s: %v %v, want %v", what, l, g, want)
	}
}

func isPulled(t *testing.T, what string, f api.Frame, bars []api.Q, want ...float64) {
	t.Helper()
	if l, g := near.Pulls(f, bars); !alike(l, want) || g != (api.Fault{}) {
		t.Errorf("%s: %v %v, want %v", what, l, g, want)
	}
}

func TestLong(t *testing.T) {
	for _, c := range []struct {
		what string
		f    api.Frame
		want []float64
	}{
		{"a square with its diagonals", drawn(square, sides+" 0-2 1-3", supports), []float64{1, 1, 1, 1, 1.4142135623730951, 1.4142135623730951}},
		{"along X, either way", drawn("0,0 7,0", "0-1 1-0", ""), []float64{7, 7}},
		{"along Y, either way", drawn("0,0 0,-7", "0-1 1-0", ""), []float64{7, 7}},
		{"not from the origin", drawn("100,-7 103,-3", "0-1", ""), []float64{5}},
		{"whole", drawn("0,0 3,4 -5,12 8,-15 20,21", "0-1 0-2 0-3 0-4 1-0", ""), []float64{5, 13, 17, 29, 5}},
		{"fractions that are floats", drawn("0,0 3/8,1/2 1/2,0 0,-3/4", "0-1 0-2 0-3", ""), []float64{0.625, 0.5, 0.75}},
		{"fractions that are none", drawn("0,0 1/3,0 0,1/10 1,4/3 -3/7,4/7", "0-1 0-2 0-3 0-4", ""), []float64{0.3333333333333333, 0.1, 1.6666666666666667, 0.7142857142857143}},
		{"neither", drawn("0,0 1,2 1,3 1/2,1/3 -2/5,7", "0-1 0-2 0-3 0-4", ""), []float64{2.23606797749979, 3.1622776601683795, 0.6009252125773316, 7.011419257183242}},
		{"texts that count as 0, and not in lowest terms", drawn("0/5,x 06/2,-0 1/0,8/2", "0-1 1-2 2-0", ""), []float64{3, 5, 4}},
		{"bars between the same joints", drawn("0,0 1,1 1,1", "0-1 1-0 0-1 0-2", ""), []float64{math.Sqrt2, math.Sqrt2, math.Sqrt2, math.Sqrt2}},
		{"no bars", drawn("1,1 2,2", "", "0x 1y"), nil},
		{"a joint alone", drawn("1,1", "", ""), nil},
		{"empty lists", api.Frame{Joints: []api.Spot{{}}, Bars: []api.Bar{}, Holds: []api.Hold{}}, nil},
	} {
		isLong(t, c.what, c.f, c.want...)
	}
}

func TestPulls(t *testing.T) {
	two := drawn("0,0 3,4 1,1", "0-1 0-2", supports)
	for _, c := range []struct {
		what string
		f    api.Frame
		bars []api.Q
		want []float64
	}{
		{"pulled", two, []api.Q{"1", "1"}, []float64{5, math.Sqrt2}},
		{"pushed", two, []api.Q{"-1", "-1"}, []float64{-5, -math.Sqrt2}},
		{"each by its own", two, []api.Q{"-7/5", "2/3"}, []float64{-7, 0.9428090415820634}},
		{"whole, fractions, neither", drawn("0,0 3,4", "0-1 0-1 0-1", ""), []api.Q{"3", "1/8", "1/15"}, []float64{15, 0.625, 0.3333333333333333}},
		{"by nothing", two, []api.Q{"0", "0"}, []float64{0, 0}},
		{"by nothing, told otherwise", two, []api.Q{"-0", "0/7"}, []float64{0, 0}},
		{"texts that count as 0", two, []api.Q{"1/0", "-1.5"}, []float64{0, 0}},
		{"texts that count as 0, again", two, []api.Q{"", "+1"}, []float64{0, 0}},
		{"not in lowest terms", two, []api.Q{"-010/4", "000"}, []float64{-12.5, 0}},
		{"no bars", drawn("1,1 2,2", "", "0x 1y"), nil, nil},
		{"no bars, empty lists", api.Frame{Joints: []api.Spot{{}}, Bars: []api.Bar{}, Holds: []api.Hold{}}, []api.Q{}, nil},
	} {
		isPulled(t, c.what, c.f, c.bars, c.want...)
	}
}

// A pull is one product that is told once: the length's float, times the stress's, is another float here.
func TestPullsAreToldOnce(t *testing.T) {
	f := drawn("0,0 1,1", "0-1 0-1 0-1 0-1", "")
	want := []float64{4.242640687119285, 12.727922061357855, 0.1414213562373095, 15.556349186104045}
	for i, stress := range []float64{3, 9, 0.1, 11} {
		if stress*math.Sqrt2 == want[i] {
			t.Errorf("%v: told twice it is the same", stress)
		}
	}
	isPulled(t, "pulled", f, []api.Q{"3", "9", "1/10", "11"}, want...)
	isPulled(t, "pushed", f, []api.Q{"-3", "-9", "-1/10", "-11"}, -want[0], -want[1], -want[2], -want[3])
}

func TestMost(t *testing.T) {
	f := most()
	l, g := near.Long(f)
	if g != (api.Fault{}) || len(l) != api.MaxBars || l[0] != math.Sqrt2 || l[1] != math.Sqrt(10) {
		t.Errorf("%v %v", l, g)
	}
	p, g := near.Pulls(f, slices.Repeat([]api.Q{"-2"}, api.MaxBars))
	if g != (api.Fault{}) || len(p) != api.MaxBars || p[0] != -2*math.Sqrt2 || p[1] != -2*math.Sqrt(10) {
		t.Errorf("%v %v", p, g)
	}
}

// How stiff bars are, how long by themselves, between which stresses they hold, and what is held, has nothing to do with how long they are.
func TestOnlyPlacesCount(t *testing.T) {
	f, bars := drawn(square, sides+" 0-2", supports), []api.Q{"1", "-2", "1/3", "0", "7"}
	before := allOf(f, bars)
	for i := range f.Bars {
		f.Bars[i].C, f.Bars[i].E = "7/3", api.Q(fmt.Sprint(i-1))
		f.Bars[i].Least, f.Bars[i].Most = api.Q(fmt.Sprint(-i)), api.Q(fmt.Sprint(i, "/7"))
	}
	f.Holds = []api.Hold{{Joint: 2, Way: api.Up, By: "1000"}}
	if after := allOf(f, bars); after != before {
		t.Errorf("%s, then %s", before, after)
	}
}

// allOf tells what both calls answer.
func allOf(f api.Frame, bars []api.Q) string {
	l, g1 := near.Long(f)
	p, g2 := near.Pulls(f, bars)
	return fmt.Sprint(l, g1, p, g2)
}
