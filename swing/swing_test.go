package swing_test

import (
	"fmt"
	"math/big"
	"slices"
	"strings"
	"testing"

	"rafter/api"
	"rafter/swing"
)

func fault(code api.Errno, at int) api.Fault { return api.Fault{Code: code, At: at} }

func spot(x, y api.Q) api.Spot { return api.Spot{X: x, Y: y} }

// spots reads places, or a motion: X,Y with blanks between.
func spots(text string) []api.Spot {
	var l []api.Spot
	for _, w := range strings.Fields(text) {
		x, y, _ := strings.Cut(w, ",")
		l = append(l, spot(api.Q(x), api.Q(y)))
	}
	return l
}

// numbers reads fractions with blanks between.
func numbers(text string) []api.Q {
	var l []api.Q
	for _, w := range strings.Fields(text) {
		l = append(l, api.Q(w))
	}
	return l
}

// drawn makes a frame of words: places as X,Y; bars as A-B or A-B*C (C is 1 if it isn't told); holds as a joint and x or y.
func drawn(places, bars, holds string) api.Frame {
	f := api.Frame{Joints: spots(places)}
	for _, w := range strings.Fields(bars) {
		w, stiff, told := strings.Cut(w, "*")
		if !told {
			stiff = "1"
		}
		f.Bars = append(f.Bars, api.Bar{A: int(w[0] - '0'), B: int(w[2] - '0'), C: api.Q(stiff), E: "0", Least: "-1", Most: "2"})
	}
	for _, w := range strings.Fields(holds) {
		f.Holds = append(f.Holds, api.Hold{Joint: int(w[0] - '0'), Way: int(w[1]-'x') + api.Along, By: "0"})
	}
	return f
}

func ones(n int) []api.Q { return slices.Repeat([]api.Q{"1"}, n) }

const (
	rights   = "0,0 1,0 0,1" // a right angle at the first one
	rightly  = "0-1*2 0-2*3"
	feet     = "1x 1y 2x 2y"
	line     = "0,0 1,0 2,0 3,0"
	links    = "0-1 1-2 2-3"
	walls    = "0x 0y 3x 3y"
	square   = "0,0 1,0 1,1 0,1"
	sides    = "0-1 1-2 2-3 3-0"
	supports = "0x 0y 1y"
	loose    = "0,0 1,0 2,0" // two joints in a row, at one wall: their paces squared are no fractions
	hung     = "0-1 1-2"
	wall     = "0x 0y 1y 2y"
)

// most has as many joints, bars and holds as may be: every joint is held in both ways.
func most() api.Frame {
	var f api.Frame
	for i := range api.MaxJoints {
		f.Joints = append(f.Joints, spot(api.Q(fmt.Sprint(i)), api.Q(fmt.Sprint(i*i))))
		f.Holds = append(f.Holds, api.Hold{Joint: i, Way: api.Along}, api.Hold{Joint: i, Way: api.Up})
	}
	for i := range api.MaxBars {
		f.Bars = append(f.Bars, api.Bar{A: i % api.MaxJoints, B: (i + 1 + i/api.MaxJoints) % api.MaxJoints, C: "1"})
	}
	return f
}

// known are frames whose paces squared are fractions, all of which are told.
var known = []struct {
	what, places, bars, holds, masses, paces string
}{
	{"two bars at right angles", rights, rightly, feet, "1 1 1", "2 3"},
	{"told from B to A", rights, "1-0*2 2-0*3", feet, "1 1 1", "2 3"},
	{"a pace twice", rights, "0-1*2 0-2*2", feet, "1 1 1", "2 2"},
	{"heavier", rights, rightly, feet, "3 1 1", "2/3 1"},
	{"what is held may be as heavy as it likes", rights, rightly, feet, "3 1/99 77", "2/3 1"},
	{"numbers not in lowest terms", "0/3,x 04/4,-0 ,6/6", "0-1*10/5 0-2*03", feet, "06/2 2/2 1", "2/3 1"},
	{"held along as well", rights, rightly, feet + " 0x", "1 1 1", "3"},
	{"held up as well", rights, rightly, "0y " + feet, "1 1 1", "2"},
	{"held in both ways", rights, rightly, feet + " 0y 0x", "1 1 1", ""},
	{"the bars' ends slide", rights, rightly, "1y 2x", "1 1 1", "0 0 4 6"},
	{"twice as long", "0,0 2,0", "0-1*3", "0x 0y 1y", "1 1", "12"},
	{"slantwise, it turns", "0,0 3,4", "0-1", "1x 1y", "1 1", "0 25"},
	{"slantwise, held along", "0,0 3,4", "0-1", "1x 1y 0x", "2 1", "8"},
	{"two in one place", "0,0 1,0", "0-1*1/2 1-0*3/2", "0x 0y 1y", "1 1", "2"},
	{"a bar alone", "0,0 1,0", "0-1", "", "1 1", "0 0 0 2"},
	{"a bar alone, a mass at each end", "0,0 1,0", "0-1", "", "1/2 2", "0 0 0 5/2"},
	{"between walls", line, links, walls + " 1y 2y", "1 1 1 1", "1 3"},
	{"between walls, free to go up", line, links, walls, "1 1 1 1", "0 0 1 3"},
	{"between walls, one is heavier", line, "0-1*3 1-2*2 2-3*1", walls + " 1y 2y", "1 1 2 1", "1 11/2"},
	{"between walls, whole, though thirds come up", line, "0-1*3 1-2*2 2-3*2", walls + " 1y 2y", "1 1 3 1", "1 16/3"},
	{"a square that isn't held", square, sides, "", "1 1 1 1", "0 0 0 0 2 2 2 2"},
	{"a square that sways", square, sides, supports + " 3y", "1 1 1 1", "0 1 1 2"},
	{"two frames beside each other", "0,0 1,0 5,5 5,6", "0-1*3 2-3*5", "0x 0y 1y 2x 2y 3x", "1 1 1 1", "3 5"},
	{"no bars", "0,0 1,1 2,2", "", "", "1 2 3", "0 0 0 0 0 0"},
	{"no bars, some are held", "0,0 1,1 1,1", "", "1x 0y 1y", "1 2 3", "0 0 0"},
	{"no bars, all is held", "0,0", "", "0y 0x", "1", ""},
	{"a joint alone", "7,8", "", "", "1/9", "0 0"},
	{"a joint alone, held in one way", "7,8", "", "0y", "1/9", "0"},
	{"at both ends held", "0,0 1,0", "0-1", "0x 0y 1x 1y", "1 1", ""},
	{"a small one", "0,0 1,0", "0-1*1/1000000000000000000000000000007", "0x 0y 1y", "1 3", "1/3000000000000000000000000000021"},
	{"a great one", "0,0 1000000000000,0", "0-1*7", "0x 0y 1y", "1 1/3", "21000000000000000000000000"},
}

const tiny = "1/10000000000000000000000000000000000000000000000000000000000000000"

// around is 0, numbers below and above all paces squared, these themselves, and what is just below and just above each.
func around(paces list) list {
	e := read(tiny)
	all := list{new(big.Rat)}
	for _, x := range append(list{big.NewRat(-7, 2), new(big.Rat)}, paces...) {
		all = append(all, x, new(big.Rat).Sub(x, e), new(big.Rat).Add(x, e), new(big.Rat).Add(x, big.NewRat(1, 3)))
	}
	return append(all, read("1"+api.Q(strings.Repeat("0", 50))))
}

func TestBelow(t *testing.T) {
	for _, c := range known {
		f, masses := drawn(c.places, c.bars, c.holds), numbers(c.masses)
		paces := rats(numbers(c.paces))
		for _, w := range around(paces) {
			want := 0
			for _, x := range paces {
				if x.Cmp(w) < 0 {
					want++
				}
			}
			if got, g := swing.Below(f, masses, told(w)); got != want || g != (api.Fault{}) {
				t.Errorf("%s: below %s: %d %v, want %d", c.what, told(w), got, g, want)
			}
		}
		heldAgainst(t, f, masses, around(paces))
	}
}

// A pace squared that is no fraction has none of these numbers: it is counted from the first one above it on.
func TestBelowWhatIsNoFraction(t *testing.T) {
	f := drawn(loose, hung, wall) // 3 less the root of 5, halved, and 3 and it, halved
	for _, c := range []struct {
		w    api.Q
		want int
	}{
		{"-1", 0}, {"0", 0}, {"1/3", 0}, {"2/5", 1}, {"1", 1}, {"5/2", 1}, {"8/3", 2}, {"3", 2}, {"100", 2},
		{"38196601125010515179541316563436188227/100000000000000000000000000000000000000", 0},
		{"38196601125010515179541316563436188228/100000000000000000000000000000000000000", 1},
		{"261803398874989484820458683436563811772/100000000000000000000000000000000000000", 1},
		{"261803398874989484820458683436563811773/100000000000000000000000000000000000000", 2},
	} {
		if got, g := swing.Below(f, ones(3), c.w); got != c.want || g != (api.Fault{}) {
			t.Errorf("below %s: %d %v, want %d", c.w, got, g, c.want)
		}
	}
}

// What isn't a fraction counts as 0; what isn't in lowest terms counts as what it is.
func TestBelowByHowItIsWritten(t *testing.T) {
	f := drawn(line, links, walls)
	for _, w := range []api.Q{"0", "", "x", "-0", "1/0", "5/-1", "+5", "5.0", "0005/000", "--1", " 5"} {
		if got, g := swing.Below(f, ones(4), w); got != 0 || g != (api.Fault{}) {
			t.Errorf("below %q: %d %v", w, got, g)
		}
	}
	for w, want := range map[api.Q]int{"06/6": 2, "0007/6": 3, "3/1": 3, "-5/5": 0, "310/100": 4, "0/7": 0} {
		if got, g := swing.Below(f, ones(4), w); got != want || g != (api.Fault{}) {
			t.Errorf("below %q: %d %v, want %d", w, got, g, want)
		}
	}
}

func TestBelowOfMost(t *testing.T) {
	f := most()
	for _, w := range []api.Q{"-1", "0", "1", "100000000000"} {
		if got, g := swing.Below(f, ones(api.MaxJoints), w); got != 0 || g != (api.Fault{}) {
			t.Errorf("all is held: below %s: %d %v", w, got, g)
		}
	}
	f.Holds = nil
	for w, want := range map[api.Q]int{"-1": 0, "0": 0, tiny: 3, "100000000000": 20} {
		if got, g := swing.Below(f, ones(api.MaxJoints), w); got != want || g != (api.Fault{}) {
			t.Errorf("nothing is held: below %s: %d %v, want %d", w, got, g, want)
		}
	}
}

// By, E, Least and Most don't count.
func TestWhatDoesNotCount(t *testing.T) {
	for _, c := range known {
		f, masses := drawn(c.places, c.bars, c.holds), numbers(c.masses)
		for i := range f.Holds {
			f.Holds[i].By = api.Q(fmt.Sprint(i*i - 5))
		}
		for i := range f.Bars {
			f.Bars[i].E, f.Bars[i].Least, f.Bars[i].Most = "-7/3", "0", "1/100"
		}
		heldAgainst(t, f, masses, around(rats(numbers(c.paces))))
		plain, g := swing.Lowest(drawn(c.places, c.bars, c.holds), masses, 9)
		if got, h := swing.Lowest(f, masses, 9); got != plain || h != g {
			t.Errorf("%s: %s %v, want %s %v", c.what, got, h, plain, g)
		}
		m := standing(f)
		plain, g = swing.Quotient(drawn(c.places, c.bars, c.holds), masses, m)
		if got, h := swing.Quotient(f, masses, m); got != plain || h != g {
			t.Errorf("%s: %s %v, want %s %v", c.what, got, h, plain, g)
		}
	}
}

// standing moves every joint in every way that isn't held, each by another number.
func standing(f api.Frame) []api.Spot {
	m := make([]api.Spot, len(f.Joints))
	for i := range m {
		if !isHeld(f, i, api.Along) {
			m[i].X = api.Q(fmt.Sprint(i + 1))
		}
		if !isHeld(f, i, api.Up) {
			m[i].Y = api.Q(fmt.Sprint(i*i - 3))
		}
	}
	return m
}
