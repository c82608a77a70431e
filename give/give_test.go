package give_test

import (
	"fmt"
	"slices"
	"strings"
	"testing"

	"rafter/api"
	"rafter/give"
)

func fault(code api.Errno, at int) api.Fault { return api.Fault{Code: code, At: at} }

func spot(x, y api.Q) api.Spot { return api.Spot{X: x, Y: y} }

func load(joint int, x, y api.Q) api.Load { return api.Load{Joint: joint, Way: spot(x, y)} }

// drawn makes a frame of words: places as X,Y; bars as A-B, A-B*C or A-B*C+E (C is 1, E is 0 if it isn't told); holds as a joint and x or y, and =By (0 if it isn't told).
func drawn(places, bars, holds string) api.Frame {
	var f api.Frame
	for _, w := range strings.Fields(places) {
		x, y, _ := strings.Cut(w, ",")
		f.Joints = append(f.Joints, spot(api.Q(x), api.Q(y)))
	}
	for _, w := range strings.Fields(bars) {
		w, extra, _ := strings.Cut(w, "+")
		w, stiff, told := strings.Cut(w, "*")
		if !told {
			stiff = "1"
		}
		f.Bars = append(f.Bars, api.Bar{A: int(w[0] - '0'), B: int(w[2] - '0'), C: api.Q(stiff), E: api.Q(extra)})
	}
	for _, w := range strings.Fields(holds) {
		w, by, _ := strings.Cut(w, "=")
		f.Holds = append(f.Holds, api.Hold{Joint: int(w[0] - '0'), Way: int(w[1]-'x') + api.Along, By: api.Q(by)})
	}
	return f
}

const (
	square   = "0,0 1,0 1,1 0,1"
	sides    = "0-1 1-2 2-3 3-0"
	supports = "0x 0y 1y"
	rightly  = "0,0 1,0 0,1" // a right angle at the first one
	ends     = "1x 1y 2x 2y"
	inLine   = "0,0 1,0 3,0"
)

// most has as many joints, bars and holds as may be: every joint is held in both ways.
func most() api.Frame {
	var f api.Frame
	for i := range api.MaxJoints {
		f.Joints = append(f.Joints, spot(api.Q(fmt.Sprint(i)), api.Q(fmt.Sprint(i*i))))
		f.Holds = append(f.Holds, api.Hold{Joint: i, Way: api.Along}, api.Hold{Joint: i, Way: api.Up})
	}
	for i := range api.MaxBars {
		f.Bars = append(f.Bars, api.Bar{A: i % api.MaxJoints, B: (i + 1 + i/api.MaxJoints) % api.MaxJoints, C: "1/2"})
	}
	return f
}

func toldMoved(m api.Moved) string {
	var w []string
	for _, s := range m.Joints {
		w = append(w, string(s.X+","+s.Y))
	}
	return fmt.Sprint(strings.Join(w, " "), " ", m.Stress.Bars, m.Stress.Holds)
}

func TestMove(t *testing.T) {
	for _, c := range []struct {
		what string
		f    api.Frame
		l    []api.Load
		want string
	}{
		{"two bars at right angles, X", drawn(rightly, "0-1 0-2", ends), []api.Load{load(0, "1", "0")}, "1,0 0,0 0,0 [-1 0] [-1 0 0 0]"},
		{"two bars at right angles, Y", drawn(rightly, "0-1 0-2", ends), []api.Load{load(0, "0", "1")}, "0,1 0,0 0,0 [0 -1] [0 0 0 -1]"},
		{"told the other way", drawn(rightly, "1-0 2-0", ends), []api.Load{load(0, "1", "2")}, "1,2 0,0 0,0 [-1 -2] [-1 0 0 -2]"},
		{"stiffer", drawn(rightly, "0-1*3 0-2*1/5", ends), []api.Load{load(0, "1", "2")}, "1/3,10 0,0 0,0 [-1 -2] [-1 0 0 -2]"},
		{"twice as long", drawn("0,0 2,0", "0-1*3", "0x 0y 1y"), []api.Load{load(1, "6", "7")}, "0,0 1/2,0 [3] [-6 0 -7]"},
		{"between walls", drawn(inLine, "0-1 1-2", "0x 0y 1y 2x 2y"), []api.Load{load(1, "5", "0")}, "0,0 1,0 0,0 [1 -2] [-1 0 0 -4 0]"},
		{"two bars in one place", drawn("0,0 1,0", "0-1*1/2 1-0*2", "0x 0y 1y"), []api.Load{load(1, "5", "0")}, "0,0 2,0 [1 4] [-5 0 0]"},
		{"a diagonal too long", drawn(square, sides+" 0-2*1+1 1-3", supports), nil, "0,0 1/6,0 2/3,1/6 1/2,1/6 [1/6 1/6 1/6 1/6 -1/6 -1/6] [0 0 0]"},
		{"a diagonal too long, the others can give way", drawn(square, sides+" 0-2*1+1", supports), nil, "0,0 0,0 1,0 1,0 [0 0 0 0 0] [0 0 0]"},
		{"all too long", drawn(inLine, "0-1*1+1 1-2*1+2", "0x 0y 1y 2y"), nil, "0,0 1,0 2,0 [0 0] [0 0 0 0]"},
		{"too long between walls", drawn("0,0 1,0", "0-1*2+1/3", "0x 0y 1x 1y"), nil, "0,0 0,0 [-2/3] [2/3 0 -2/3 0]"},
		{"a wall is moved", drawn("0,0 1,0", "0-1*3", "0x 0y 1x=1/2 1y=5"), nil, "0,0 1/2,5 [3/2] [-3/2 0 3/2 0]"},
		{"a wall is moved as far as the bar is too long", drawn("0,0 1,0", "0-1*3+1/2", "0x 0y 1x=1/2 1y"), nil, "0,0 1/2,0 [0] [0 0 0 0]"},
		{"all is moved", drawn("0,0 2,0 1,1", "0-1 1-2 2-0", "0x=1 0y=-2 1y=-2"), nil, "1,-2 1,-2 1,-2 [0 0 0] [0 0 0]"},
		{"one prop sinks", drawn("0,0 2,0 1,1", "0-1 1-2 2-0", "0x 0y 1y=-1"), nil, "0,0 0,-1 1/2,-1/2 [0 0 0] [0 0 0]"},
		{"all at once", drawn("0,0 1,0", "0-1*3+1", "0x=1 0y 1y=7"), []api.Load{load(1, "6", "0"), load(0, "0", "1/2")}, "1,0 4,7 [6] [-6 -1/2 0]"},
		{"no loads", drawn(rightly, "0-1 0-2", ends), []api.Load{}, "0,0 0,0 0,0 [0 0] [0 0 0 0]"},
		{"loads of nothing", drawn(rightly, "0-1 0-2", ends), []api.Load{load(0, "", "x"), load(2, "1/0", "-0")}, "0,0 0,0 0,0 [0 0] [0 0 0 0]"},
		{"loads that take each other away", drawn(rightly, "0-1 0-2", ends), []api.Load{load(0, "1/3", "5"), load(0, "-2/6", "-5")}, "0,0 0,0 0,0 [0 0] [0 0 0 0]"},
		{"loads at what is held", drawn(rightly, "0-1 0-2", ends), []api.Load{load(1, "1/3", "5"), load(2, "1", "1")}, "0,0 0,0 0,0 [0 0] [-1/3 -5 -1 -1]"},
		{"no bars", drawn("1,1", "", "0y=3 0x=-1/2"), []api.Load{load(0, "5", "-7")}, "-1/2,3 [] [7 -5]"},
		{"no bars, no loads", drawn("1,1 1,1", "", "0y 1x=4/2 0x 1y"), nil, "0,0 2,0 [] [0 0 0 0]"},
		{"texts that count as 0, and not in lowest terms", drawn("0/4,x 01,", "0-1*06/2+1/0", "0x=? 0y=-0 1x=02/4 1y=1/-2"), nil, "0,0 1/2,0 [3/2] [-3/2 0 3/2 0]"},
	} {
		m, g := give.Move(c.f, c.l)
		if got := toldMoved(m); got != c.want || g != (api.Fault{}) {
			t.Errorf("%s: %s %v, want %s", c.what, got, g, c.want)
		}
	}
}

func TestNotMoved(t *testing.T) {
	swaying := drawn(square, sides, supports)
	moved := drawn(square, "0-1*1+1 1-2*1+7 2-3*5 3-0*1+1", "0x=2 0y=3 1y=4")
	loose := drawn(square+" 9,9", sides+" 0-2 1-3", supports)
	for _, c := range []struct {
		what string
		f    api.Frame
		l    []api.Load
		want api.Errno
	}{
		{"a joint alone", drawn("1,1", "", ""), nil, api.ErrFree},
		{"a joint alone, loads that take each other away", drawn("1,1", "", ""), []api.Load{load(0, "1", "2"), load(0, "-1", "-2")}, api.ErrFree},
		{"a joint alone, X", drawn("1,1", "", ""), []api.Load{load(0, "1/9", "0")}, api.ErrNone},
		{"a joint alone, Y", drawn("1,1", "", ""), []api.Load{load(0, "0", "-1")}, api.ErrNone},
		{"a joint held in X", drawn("1,1", "", "0x=1"), []api.Load{load(0, "3", "0")}, api.ErrFree},
		{"a joint held in X, Y", drawn("1,1", "", "0x=1"), []api.Load{load(0, "3", "1")}, api.ErrNone},
		{"a triangle alone", drawn(rightly, "0-1 1-2 2-0", ""), []api.Load{load(1, "1", "0"), load(0, "-1", "0")}, api.ErrFree},
		{"a triangle alone that is turned", drawn(rightly, "0-1 1-2 2-0", ""), []api.Load{load(2, "1", "0"), load(0, "-1", "0")}, api.ErrNone},
		{"a square that sways", swaying, []api.Load{load(2, "1", "0")}, api.ErrNone},
		{"a square that sways, borne", swaying, []api.Load{load(2, "0", "-4")}, api.ErrFree},
		{"a square that sways, no loads", swaying, nil, api.ErrFree},
		{"E and By, it sways", moved, []api.Load{load(2, "1", "0")}, api.ErrNone},
		{"E and By, it sways, no loads", moved, nil, api.ErrFree},
		{"in a line, between walls", drawn(inLine, "0-1*1+1 1-2", "0x 0y 2x 2y"), nil, api.ErrFree},
		{"in a line, pushed aside", drawn(inLine, "0-1 1-2", "0x 0y 2x 2y"), []api.Load{load(1, "0", "1/5")}, api.ErrNone},
		{"one joint loose", loose, []api.Load{load(2, "1", "1")}, api.ErrFree},
		{"one joint loose, which falls", loose, []api.Load{load(2, "1", "1"), load(4, "0", "-1")}, api.ErrNone},
	} {
		m, g := give.Move(c.f, c.l)
		if m.Joints != nil || m.Stress.Bars != nil || m.Stress.Holds != nil || g != fault(c.want, 0) {
			t.Errorf("%s: %v %v, want %v", c.what, m, g, c.want)
		}
	}
}

func TestMostMoved(t *testing.T) {
	f := most()
	m, g := give.Move(f, slices.Repeat([]api.Load{load(9, "1", "-1/4")}, api.MaxLoads))
	if g != (api.Fault{}) || len(m.Joints) != api.MaxJoints || len(m.Stress.Bars) != api.MaxBars || len(m.Stress.Holds) != api.MaxHolds {
		t.Fatalf("%v %v", m, g)
	}
	if got := m.Stress.Holds[18:]; m.Joints[9] != spot("0", "0") || got[0] != "-20" || got[1] != "5" {
		t.Errorf("%v %v", m.Joints[9], got)
	}
}

// Between which stresses a bar holds has nothing to do with how it gives.
func TestLimitsDoNotCount(t *testing.T) {
	f := drawn(square, sides+" 0-2*1+1 1-3", supports)
	l := []api.Load{load(2, "100", "-1")}
	before := allOf(f, l, []api.Q{"1", "2", "3", "4", "5", "6"})
	for i := range f.Bars {
		f.Bars[i].Least, f.Bars[i].Most = api.Q(fmt.Sprint(-i)), api.Q(fmt.Sprint(i, "/7"))
	}
	if after := allOf(f, l, []api.Q{"1", "2", "3", "4", "5", "6"}); after != before {
		t.Errorf("%s, then %s", before, after)
	}
}

func TestEnergy(t *testing.T) {
	two := drawn(rightly, "0-1*2 0-2*1/3", ends)
	for _, c := range []struct {
		what string
		f    api.Frame
		bars []api.Q
		want api.Q
	}{
		{"two bars", two, []api.Q{"1", "2"}, "25/4"},
		{"below 0", two, []api.Q{"-1", "-2"}, "25/4"},
		{"the other way round", two, []api.Q{"2", "1"}, "5/2"},
		{"of nothing", two, []api.Q{"0", "-0"}, "0"},
		{"texts that count as 0", two, []api.Q{"1/0", " 1"}, "0"},
		{"not in lowest terms", two, []api.Q{"02/4", "x"}, "1/16"},
		{"one bar", drawn("0,0 5,0", "0-1", ""), []api.Q{"1"}, "1/2"},
		{"no bars", drawn("1,1", "", ""), nil, "0"},
		{"no bars, an empty list", drawn("1,1", "", "0x"), []api.Q{}, "0"},
		{"E and By don't count", drawn(rightly, "0-1*2+1/2 0-2*1/3+7", "1x=1 1y=2 2x=3"), []api.Q{"1", "2"}, "25/4"},
		{"as many as may be", most(), slices.Repeat([]api.Q{"1/2"}, api.MaxBars), "6"},
		{"a frame that sways", drawn(square, sides, ""), []api.Q{"1", "1", "1", "1"}, "2"},
	} {
		if got, g := give.Energy(c.f, c.bars); got != c.want || g != (api.Fault{}) {
			t.Errorf("%s: %s %v, want %s", c.what, got, g, c.want)
		}
	}
}

// allOf tells what all calls answer.
func allOf(f api.Frame, l []api.Load, bars []api.Q) string {
	m, g1 := give.Move(f, l)
	e, g2 := give.Energy(f, bars)
	return fmt.Sprint(toldMoved(m), g1, e, g2)
}
