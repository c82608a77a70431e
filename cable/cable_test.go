package cable_test

import (
	"fmt"
	"strings"
	"testing"

	"rafter/api"
	"rafter/cable"
)

func fault(code api.Errno, at int) api.Fault { return api.Fault{Code: code, At: at} }

func spot(x, y api.Q) api.Spot { return api.Spot{X: x, Y: y} }

func load(joint int, x, y api.Q) api.Load { return api.Load{Joint: joint, Way: spot(x, y)} }

// spots reads places: X,Y with blanks between.
func spots(text string) []api.Spot {
	var l []api.Spot
	for _, w := range strings.Fields(text) {
		x, y, _ := strings.Cut(w, ",")
		l = append(l, spot(api.Q(x), api.Q(y)))
	}
	return l
}

// numbers reads fractions with blanks between.
func numbers(text string) []api.Q {
	var l []api.Q
	for _, w := range strings.Fields(text) {
		l = append(l, api.Q(w))
	}
	return l
}

// pulls reads loads: a joint, = and X,Y.
func pulls(text string) []api.Load {
	var l []api.Load
	for _, w := range strings.Fields(text) {
		l = append(l, api.Load{Joint: int(w[0] - '0'), Way: spots(w[2:])[0]})
	}
	return l
}

// drawn makes a frame of words: places as X,Y; bars as A-B; holds as a joint and x or y.
func drawn(places, bars, holds string) api.Frame {
	f := api.Frame{Joints: spots(places)}
	for _, w := range strings.Fields(bars) {
		f.Bars = append(f.Bars, api.Bar{A: int(w[0] - '0'), B: int(w[2] - '0'), C: "1", E: "0", Least: "-1", Most: "2"})
	}
	for _, w := range strings.Fields(holds) {
		f.Holds = append(f.Holds, api.Hold{Joint: int(w[0] - '0'), Way: int(w[1]-'x') + api.Along, By: "0"})
	}
	return f
}

const (
	hung     = "5,5 0,0 2,0" // a joint between two that are held
	cables   = "0-1 0-2"
	feet     = "1x 1y 2x 2y"
	square   = "0,0 1,0 1,1 0,1"
	sides    = "0-1 1-2 2-3 3-0"
	crossed  = sides + " 0-2 1-3"
	chain    = "9,9 0,0 7,7 9,9 4,8" // two joints at the ends, three free ones between
	links    = "1-0 0-2 2-3 3-4"
	ends     = "1x 1y 4x 4y"
	supports = "0x 0y 1y"
)

// most has as many joints, bars and holds as may be: every joint is held in both ways.
func most() api.Frame {
	var f api.Frame
	for i := range api.MaxJoints {
		f.Joints = append(f.Joints, spot(api.Q(fmt.Sprint(i)), api.Q(fmt.Sprint(i*i))))
		f.Holds = append(f.Holds, api.Hold{Joint: i, Way: api.Along}, api.Hold{Joint: i, Way: api.Up})
	}
	for i := range api.MaxBars {
		f.Bars = append(f.Bars, api.Bar{A: i % api.MaxJoints, B: (i + 1 + i/api.MaxJoints) % api.MaxJoints, C: "1"})
	}
	return f
}

func TestShape(t *testing.T) {
	for _, c := range []struct {
		what    string
		f       api.Frame
		q, l    string
		settled string
	}{
		{"a cable with a load", drawn(hung, cables, feet), "1 1", "0=0,-4", "1,-2 0,0 2,0"},
		{"without any", drawn(hung, cables, feet), "1 1", "", "1,0 0,0 2,0"},
		{"one pulls more", drawn(hung, cables, feet), "1 3", "0=0,-4", "3/2,-1 0,0 2,0"},
		{"one doesn't pull", drawn(hung, cables, feet), "0 2", "0=1,-4", "5/2,-2 0,0 2,0"},
		{"one pushes", drawn(hung, cables, feet), "-1 2", "0=0,-4", "4,-4 0,0 2,0"},
		{"both push", drawn(hung, cables, feet), "-1 -3", "0=0,-4", "3/2,1 0,0 2,0"},
		{"told from B to A", drawn(hung, "1-0 2-0", feet), "1 3", "0=0,-4", "3/2,-1 0,0 2,0"},
		{"several loads at one joint", drawn(hung, cables, feet), "1 1", "0=1,-4 0=-2,1/2 0=1/3,0", "2/3,-7/4 0,0 2,0"},
		{"loads where it is held", drawn(hung, cables, feet), "1 1", "1=7,7 2=-1,3", "1,0 0,0 2,0"},
		{"the same two joints thrice", drawn(hung, cables+" 2-0 0-2", feet), "1 2 -1 2", "0=0,-4", "3/2,-1 0,0 2,0"},
		{"a bar between what is held", drawn(hung, cables+" 1-2", feet), "1 1 77", "0=0,-4", "1,-2 0,0 2,0"},
		{"held along alone", drawn(hung, cables, feet+" 0x"), "1 1", "0=9,-4", "5,-2 0,0 2,0"},
		{"held up alone", drawn(hung, cables, feet+" 0y"), "1 1", "0=9,-4", "11/2,5 0,0 2,0"},
		{"held in both", drawn(hung, cables, feet+" 0y 0x"), "1 1", "0=9,-4", "5,5 0,0 2,0"},
		{"held in both, what can't be otherwise", drawn(hung, cables, feet+" 0y 0x"), "1 -1", "0=9,-4", "5,5 0,0 2,0"},
		{"one along, another up", drawn("0,3 2,7", "0-1", "0x 1y"), "1/2", "1=5,0 0=0,-1", "0,5 10,7"},
		{"a chain", drawn(chain, links, ends), "1 1 1 1", "", "1,2 0,0 2,4 3,6 4,8"},
		{"a chain with loads", drawn(chain, links, ends), "1 2 1 1", "0=0,-1 3=1,0 2=1/2,0", "12/7,11/7 0,0 18/7,20/7 53/14,38/7 4,8"},
		{"a joint alone that is held", drawn("3,4", "", "0x 0y"), "", "0=1,1", "3,4"},
		{"a joint alone beside", drawn(hung+" 7,7", cables, feet+" 3x 3y"), "1 1", "0=0,-4", "1,-2 0,0 2,0 7,7"},
		{"two that are at one place", drawn("5,5 0,0 0,0", cables, feet), "1 1", "0=0,-4", "0,-2 0,0 0,0"},
		{"both go to one place", drawn("5,5 1,2 9,9", "0-1 2-1", "1x 1y"), "1 -3", "", "1,2 1,2 1,2"},
	} {
		if got := settled(t, c.f, numbers(c.q), pulls(c.l)); fmt.Sprint(got) != fmt.Sprint(spots(c.settled)) {
			t.Errorf("%s: %v, want %s", c.what, got, c.settled)
		}
	}
}

// Where a joint was doesn't count in a way in which it isn't held; nor do By, C, E, Least and Most, or how the numbers are written.
func TestShapeByWhatCounts(t *testing.T) {
	f := drawn(hung, cables, feet+" 0x")
	want := fmt.Sprint(spots("5,-1 0,0 2,0"))
	f.Joints[0].Y = "-77/3"
	for i := range f.Holds {
		f.Holds[i].By = api.Q(fmt.Sprint(i + 3))
	}
	f.Bars[0].C, f.Bars[0].E, f.Bars[1].Least, f.Bars[1].Most = "7/3", "-9", "-5", "1/8"
	if got := settled(t, f, numbers("1 3"), pulls("0=0,-4")); fmt.Sprint(got) != want {
		t.Errorf("%v, want %s", got, want)
	}
	f.Joints = []api.Spot{spot("010/2", "x"), spot("-0", "7/0"), spot("6/3", "")}
	if got := settled(t, f, numbers("2/2 0012/4"), []api.Load{load(0, "1.5", "-08/2"), load(0, "+1", "- 1")}); fmt.Sprint(got) != want {
		t.Errorf("%v, want %s", got, want)
	}
}

// nowhere holds a fault of Shape against want, and what else it tells against nothing.
func nowhere(t *testing.T, what string, f api.Frame, q, l string, want api.Fault) {
	t.Helper()
	if s, g := cable.Shape(f, numbers(q), pulls(l)); s != nil || g != want {
		t.Errorf("%s: %v %v, want %v", what, s, g, want)
	}
	if got := heldAgainst(t, f, numbers(q), pulls(l)); got != want {
		t.Errorf("%s: %v, want %v", what, got, want)
	}
}

// X and Y can each be one place, none or any; X is told first.
func TestShapeNowhereOrAnywhere(t *testing.T) {
	none, free := api.ErrNone, api.ErrFree
	for _, c := range []struct {
		what, holds, l string
		want           api.Fault
	}{
		{"none, none", "", "0=1,1", fault(none, 0)},
		{"none, free", "", "0=1,0", fault(none, 0)},
		{"none, one", "0y", "0=1,0", fault(none, 0)},
		{"none, one, with a load there", "0y", "0=1,1", fault(none, 0)},
		{"free, none", "", "0=0,1", fault(free, 0)},
		{"free, free", "", "", fault(free, 0)},
		{"free, one", "0y", "0=0,1", fault(free, 0)},
		{"one, none", "0x", "0=1,-1/9", fault(none, 1)},
		{"one, free", "0x", "0=1,0", fault(free, 1)},
		{"loads that come to 0", "", "0=1,-2 0=-1,2", fault(free, 0)},
		{"loads that don't", "0x", "0=1,-2 0=-1,1", fault(none, 1)},
	} {
		nowhere(t, c.what+": one joint", drawn("3,4", "", c.holds), "", c.l, c.want)
		nowhere(t, c.what+": bars of 0", drawn(hung, cables, feet+" "+c.holds), "0 0", c.l, c.want)
		nowhere(t, c.what+": bars that come to 0", drawn("5,5 1,2 1,2", cables, feet+" "+c.holds), "3 -3", c.l, c.want)
		nowhere(t, c.what+": the same bar twice", drawn("5,5 1,2", "0-1 1-0", "1x 1y "+c.holds), "3 -3", c.l, c.want)
		nowhere(t, c.what+": nothing is held", drawn("5,5 1,2 3,3", "0-1 1-2", c.holds), "1 2", c.l+" 2=0,0", c.want)
	}
}

// Holds pull it apart in one way, and let it be anywhere in the other.
func TestShapeByWhereHoldsAre(t *testing.T) {
	none, free := api.ErrNone, api.ErrFree
	for _, c := range []struct {
		what, places, q, l string
		want               api.Fault
	}{
		{"apart in X", "5,5 0,0 2,0", "1 -1", "", fault(none, 0)},
		{"apart in Y", "5,5 0,0 0,2", "1 -1", "", fault(free, 0)},
		{"apart in both", "5,5 0,0 2,2", "1 -1", "", fault(none, 0)},
		{"apart, the load makes it up in X", "5,5 0,0 2,0", "1 -1", "0=2,0", fault(free, 0)},
		{"apart, the load makes it up in X alone", "5,5 0,0 2,2", "1 -1", "0=2,0", fault(free, 0)},
		{"apart, the load makes it up in Y alone", "5,5 0,0 2,2", "1 -1", "0=0,2", fault(none, 0)},
	} {
		nowhere(t, c.what, drawn(c.places, cables, feet), c.q, c.l, c.want)
	}
	for _, c := range []struct {
		what, places, q, l string
		want               api.Fault
	}{
		{"apart in X", "5,5 0,0 2,0", "1 -1", "", fault(free, 1)},
		{"apart in Y", "5,5 0,0 0,2", "1 -1", "", fault(none, 1)},
		{"the load makes it up", "5,5 0,0 0,2", "1 -1", "0=0,2", fault(free, 1)},
	} {
		nowhere(t, c.what+", held along", drawn(c.places, cables, feet+" 0x"), c.q, c.l, c.want)
	}
	held := drawn("5,5 1,2 3,3", "0-1 1-2", "1x")
	nowhere(t, "held along by one", held, "1 1", "", fault(free, 1))
	nowhere(t, "held along by one, loads up", held, "1 1", "2=0,1", fault(none, 1))
	nowhere(t, "held along by one, loads that cancel", held, "1 1", "2=0,1 0=5,-1", fault(free, 1))
	nowhere(t, "held up by one", drawn("5,5 1,2 3,3", "0-1 1-2", "1y"), "1 1", "", fault(free, 0))
}

// Of two joints one can be anywhere and the other nowhere: so nothing is right.
func TestShapeNoneAheadOfFree(t *testing.T) {
	two := drawn("5,5 7,7 0,0", "0-2 1-2", "2x 2y")
	for _, l := range []string{"0=1,0", "1=1,0", "0=-1,0 1=1,0"} {
		nowhere(t, "both loose: "+l, two, "0 0", l, fault(api.ErrNone, 0))
	}
	nowhere(t, "one loose, the other pulled", two, "0 1", "1=1,0", fault(api.ErrFree, 0))
	up := drawn("5,5 7,7 0,0", "0-2 1-2", "2x 2y 0x 1x")
	for _, l := range []string{"0=0,1", "1=0,1", "0=0,-1 1=0,1"} {
		nowhere(t, "both loose: "+l, up, "0 0", l, fault(api.ErrNone, 1))
	}
	nowhere(t, "a part beside that is held nowhere", drawn(hung+" 8,8 9,9", cables+" 3-4", feet), "1 1 1", "", fault(api.ErrFree, 0))
	nowhere(t, "a part beside that is pulled away", drawn(hung+" 8,8 9,9", cables+" 3-4", feet), "1 1 1", "3=1,0", fault(api.ErrNone, 0))
}
