package limit_test

import (
	"fmt"
	"strings"
	"testing"

	"rafter/api"
	"rafter/limit"
)

func fault(code api.Errno, at int) api.Fault { return api.Fault{Code: code, At: at} }

func spot(x, y api.Q) api.Spot { return api.Spot{X: x, Y: y} }

func hold(joint, way int) api.Hold { return api.Hold{Joint: joint, Way: way, By: "0"} }

func load(joint int, x, y api.Q) api.Load { return api.Load{Joint: joint, Way: spot(x, y)} }

// barOf reads a bar: A-B, or A-B:Least:Most (without these it holds from -1 to 2).
func barOf(word string) api.Bar {
	b := api.Bar{A: int(word[0] - '0'), B: int(word[2] - '0'), C: "1", E: "0", Least: "-1", Most: "2"}
	if l := strings.Split(word, ":"); len(l) == 3 {
		b.Least, b.Most = api.Q(l[1]), api.Q(l[2])
	}
	return b
}

// spots reads places: X,Y with blanks between.
func spots(text string) []api.Spot {
	var l []api.Spot
	for _, w := range strings.Fields(text) {
		x, y, _ := strings.Cut(w, ",")
		l = append(l, spot(api.Q(x), api.Q(y)))
	}
	return l
}

// drawn makes a frame of words: places as X,Y; bars as barOf reads them; holds as a joint and x or y.
func drawn(places, bars, holds string) api.Frame {
	f := api.Frame{Joints: spots(places)}
	for _, w := range strings.Fields(bars) {
		f.Bars = append(f.Bars, barOf(w))
	}
	for _, w := range strings.Fields(holds) {
		f.Holds = append(f.Holds, hold(int(w[0]-'0'), int(w[1]-'x')+api.Along))
	}
	return f
}

// pulls reads loads: a joint, = and X,Y.
func pulls(text string) []api.Load {
	var l []api.Load
	for _, w := range strings.Fields(text) {
		l = append(l, api.Load{Joint: int(w[0] - '0'), Way: spots(w[2:])[0]})
	}
	return l
}

// stressOf reads the stresses of bars, a semicolon, and those of holds.
func stressOf(text string) api.Stress {
	var s api.Stress
	bars, holds, _ := strings.Cut(text, ";")
	for _, w := range strings.Fields(bars) {
		s.Bars = append(s.Bars, api.Q(w))
	}
	for _, w := range strings.Fields(holds) {
		s.Holds = append(s.Holds, api.Q(w))
	}
	return s
}

const (
	line     = "0,0 1,0"
	roller   = "0x 0y 1y"
	rights   = "0,0 1,0 0,1" // two bars at right angles meet in the first
	rightly  = "0-1 0-2"
	feet     = "1x 1y 2x 2y"
	square   = "0,0 1,0 1,1 0,1"
	sides    = "0-1 1-2 2-3 3-0"
	supports = "0x 0y 1y"
	pinned   = "0x 0y 1x 1y"
)

// most has as many joints, bars and holds as may be: every joint is held in both ways.
func most() api.Frame {
	var f api.Frame
	for i := range api.MaxJoints {
		f.Joints = append(f.Joints, spot(api.Q(fmt.Sprint(i)), api.Q(fmt.Sprint(i*i))))
		f.Holds = append(f.Holds, hold(i, api.Along), hold(i, api.Up))
	}
	for i := range api.MaxBars {
		f.Bars = append(f.Bars, barOf(fmt.Sprintf("%d-%d", i%api.MaxJoints, (i+1+i/api.MaxJoints)%api.MaxJoints)))
	}
	return f
}

func TestCarries(t *testing.T) {
	for _, c := range []struct {
		what   string
		f      api.Frame
		l      string
		factor api.Q
		stress string // "": more than one is right
	}{
		{"a bar is pulled", drawn(line, "0-1", roller), "1=1,0", "2", "2; -2 0 0"},
		{"pushed", drawn(line, "0-1", roller), "1=-1,0", "1", "-1; 1 0 0"},
		{"told from B to A", drawn(line, "1-0", roller), "1=-1,0", "1", "-1; 1 0 0"},
		{"pulled by less", drawn(line, "0-1", roller), "1=1/3,0", "6", "2; -2 0 0"},
		{"pulled by two loads", drawn(line, "0-1", roller), "1=1/3,0 1=1/6,7", "4", "2; -2 0 -28"},
		{"a longer bar", drawn("0,0 5,0", "0-1", roller), "1=1,0", "10", "2; -10 0 0"},
		{"the first gives", drawn(rights, rightly, feet), "0=-2,-1", "1", "2 1; 2 0 0 1"},
		{"the second gives", drawn(rights, rightly, feet), "0=-1,-2", "1", "1 2; 1 0 0 2"},
		{"the second gives, being pushed", drawn(rights, rightly, feet), "0=-1,1", "1", "1 -1; 1 0 0 -1"},
		{"both give at once", drawn(rights, rightly, feet), "0=-1,-1", "2", "2 2; 2 0 0 2"},
		{"two in a line", drawn("0,0 1,0 3,0", "0-1 1-2", "0x 0y 1y 2x 2y"), "1=1,0", "4", "2 -1; -2 0 0 -2 0"},
		{"two in a line, the other way", drawn("0,0 1,0 3,0", "0-1 1-2", "0x 0y 1y 2x 2y"), "1=-1,0", "5", "-1 2; 1 0 0 4 0"},
		{"one bar twice", drawn(line, "0-1 1-0:-7:1/2", roller), "1=1,0", "5/2", "2 1/2; -5/2 0 0"},
		{"one bar that holds nothing, and one", drawn(line, "0-1:0:0 0-1", roller), "1=1,0", "2", "0 2; -2 0 0"},
		{"three that meet", drawn("0,0 -1,1 0,1 1,1", "0-1 0-2 0-3", "1x 1y 2x 2y 3x 3y"), "0=0,-1", "6", "2 2 2; -2 2 0 2 2 2"},
		{"a square sways", drawn(square, "1-2:-1:1 2-3:-1:1 3-0:-1:1 0-2:-1:1 1-3:-1:1", pinned), "3=1,0", "2", "-1 -1 1 1 -1; -1 -2 -1 2"},
		{"a square sways, one of its diagonals", drawn(square, "1-2 2-3 3-0 0-2", pinned), "3=1,0", "1", "-1 -1 0 1; -1 -1 0 1"},
		{"a stress of its own", drawn(square, sides+" 0-2 1-3", supports), "2=1,1 0=-1,-1", "3", "1 1 1 1 2 -1; 0 0 0"},
		{"a frame that could turn, but isn't turned", drawn(line, "0-1", "0x 0y"), "1=3,0", "2/3", "2; -2 0"},
	} {
		got := heldAgainst(t, c.f, pulls(c.l))
		if got.Factor != c.factor {
			t.Errorf("%s: %s, want %s", c.what, got.Factor, c.factor)
		}
		if want := fmt.Sprint(stressOf(c.stress)); c.stress != "" && fmt.Sprint(got.Stress) != want {
			t.Errorf("%s: %v, want %s", c.what, got.Stress, want)
		}
	}
}

// What can't be borne at all is borne 0 times.
func TestCarriesNothing(t *testing.T) {
	for _, c := range []struct {
		what string
		f    api.Frame
		l    string
	}{
		{"a joint alone", drawn("5,7", "", ""), "0=1,0"},
		{"a joint that is held in the other way", drawn("5,7", "", "0x"), "0=1,1"},
		{"a joint beside a frame", drawn("0,0 1,0 5,5", "0-1", roller), "1=1,0 2=0,1/9"},
		{"a bar turns", drawn(line, "0-1", "0x 0y"), "1=1,1"},
		{"a square sways", drawn(square, sides, supports), "2=1,0"},
		{"a square sways the other way", drawn(square, sides, supports), "3=-1/5,0"},
		{"three in a line", drawn("0,0 1,0 2,0", "0-1 1-2 0-2", "0x 0y 2x 2y"), "1=0,-1"},
		{"nothing is held", drawn("0,0 1,0 0,1", "0-1 1-2 2-0", ""), "0=0,1"},
		{"a bar that holds nothing", drawn(line, "0-1:0:0", roller), "1=1,0"},
		{"a cable is pushed", drawn(line, "0-1:0:5", roller), "1=-1,0"},
		{"a post is pulled", drawn(line, "0-1:-5:0", roller), "1=1,0"},
		{"two cables, one pushed", drawn(rights, "0-1:0:1 0-2:0:1", feet), "0=-1,1"},
		{"a post and a cable, one load wrong", drawn(rights, "0-1:0:1 0-2:-1:0", feet), "0=-1,-1"},
	} {
		if got := heldAgainst(t, c.f, pulls(c.l)); got.Factor != "0" {
			t.Errorf("%s: %s", c.what, got.Factor)
		}
	}
}

// Bars whose Least or Most is 0 bear what goes the other way.
func TestCarriesByOneSide(t *testing.T) {
	for _, c := range []struct {
		what, bars, l string
		factor        api.Q
	}{
		{"cables are pulled", "0-1:0:3 0-2:0:1", "0=-1,-1", "1"},
		{"posts are pushed", "0-1:-3:0 0-2:-1:0", "0=1,1/4", "3"},
		{"a post and a cable", "0-1:-3:0 0-2:0:1", "0=1,-1", "1"},
		{"one isn't asked", "0-1:0:0 0-2:0:1", "0=0,-1", "1"},
		{"twice, once each way", "0-1:-3:0 0-1:0:2 0-2", "0=-1,0", "2"},
		{"twice, once each way, pushed", "0-1:-3:0 0-1:0:2 0-2", "0=1,0", "3"},
	} {
		if got := heldAgainst(t, drawn(rights, c.bars, feet), pulls(c.l)); got.Factor != c.factor {
			t.Errorf("%s: %s, want %s", c.what, got.Factor, c.factor)
		}
	}
	// Of two cables that cross a square only one is pulled.
	braced := drawn(square, sides+" 0-2:0:1 1-3:0:1", supports)
	for l, factor := range map[string]api.Q{"2=1,0": "1", "2=-1,0": "1", "3=1/2,0": "2"} {
		if got := heldAgainst(t, braced, pulls(l)); got.Factor != factor {
			t.Errorf("%s: %s, want %s", l, got.Factor, factor)
		}
	}
}

func TestCarriesWithoutEnd(t *testing.T) {
	triangle := drawn("0,0 2,0 1,1", "0-1 1-2 2-0", supports)
	for _, c := range []struct {
		what string
		f    api.Frame
		l    []api.Load
	}{
		{"no loads", triangle, nil},
		{"an empty list", triangle, []api.Load{}},
		{"loads of 0", triangle, []api.Load{load(2, "0", "-0"), load(1, "0/7", "000")}},
		{"loads that count as 0", triangle, []api.Load{load(2, "", "x"), load(1, "1/0", "1.5")}},
		{"loads that come to 0", triangle, []api.Load{load(2, "1/3", "7"), load(2, "2/3", "-7"), load(2, "-1", "0")}},
		{"where holds are", triangle, []api.Load{load(0, "5", "-7"), load(1, "0", "3")}},
		{"where holds are, and what comes to 0", triangle, []api.Load{load(1, "2", "3"), load(1, "-2", "9"), load(0, "1", "1")}},
		{"on a frame that moves", drawn(square, sides, "2x 3y"), []api.Load{load(2, "1", "0"), load(3, "0", "-1/7")}},
		{"on bars that hold nothing", drawn(line, "0-1:0:0", roller), []api.Load{load(0, "1", "1"), load(1, "0", "1")}},
		{"no loads on a joint alone", drawn("5,7", "", ""), nil},
		{"a joint that is held", drawn("5,7", "", "0x 0y"), []api.Load{load(0, "1", "1")}},
		{"all is held", most(), []api.Load{load(4, "1", "1"), load(9, "2", "5")}},
	} {
		if _, g := carriedOrFree(t, c.f, c.l); g != fault(api.ErrFree, 0) {
			t.Errorf("%s: %v", c.what, g)
		}
	}
	// The least of it elsewhere, and there is an end.
	for _, l := range []string{"0=5,-7 1=1/99,3", "1=2,3 1=-2,9 2=0,1/1000"} {
		if _, g := carriedOrFree(t, triangle, pulls(l)); g != (api.Fault{}) {
			t.Errorf("%s: %v", l, g)
		}
	}
}

// C, E, By and the ends of other bars say nothing here.
func TestCarriesWhateverIsStiff(t *testing.T) {
	f := drawn(square, sides+" 0-2 1-3", supports)
	l := pulls("2=1,-3 3=1,0")
	want := heldAgainst(t, f, l).Factor
	f.Bars[0].C, f.Bars[4].C, f.Bars[2].E, f.Bars[5].E = "1/100", "7777", "5", "-3"
	f.Holds[0].By, f.Holds[2].By = "4", "-1/2"
	if got := heldAgainst(t, f, l).Factor; got != want {
		t.Errorf("%s, want %s", got, want)
	}
}

func told(q api.Q, g api.Fault) string { return fmt.Sprint(q, " ", g) }

func TestExamples(t *testing.T) {
	f := drawn(line, "0-1", roller)
	l, g := limit.Carries(f, pulls("1=1,0"))
	if got := fmt.Sprint(l.Factor, l.Stress, g); got != "2{[2] [-2 0 0]} {0 0}" {
		t.Errorf("%s", got)
	}
	if got := told(limit.Breaks(f, pulls("1=1,0"), spots("0,0 1/2,0"))); got != "2 {0 0}" {
		t.Errorf("%s", got)
	}
	if ok, g := limit.Safe(f, pulls("1=1,0"), "2", stressOf("2; -2 0 0")); !ok || g != (api.Fault{}) {
		t.Errorf("%v %v", ok, g)
	}
}
