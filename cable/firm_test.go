package cable_test

import (
	"fmt"
	"strings"
	"testing"

	"rafter/api"
	"rafter/cable"
)

func TestFirm(t *testing.T) {
	for _, c := range []struct {
		what, places, bars, q string
		want                  string
	}{
		{"a joint alone", "3,4", "", "", "true 0 0"},
		{"no bars", square, "", "", "true 0 0"},
		{"all 0", square, crossed, "0 0 0 0 0 0", "true 0 0"},
		{"one bar pulls", "0,0 1,0", "0-1", "2", "false 1 0"},
		{"one bar pushes", "0,0 1,0", "0-1", "-1/7", "false 0 1"},
		{"cables and struts", square, crossed, "1 1 1 1 -1 -1", "true 1 0"},
		{"struts and cables", square, crossed, "-1 -1 -1 -1 1 1", "true 0 1"},
		{"thirds of it", square, crossed, "1/3 1/3 1/3 1/3 -1/3 -1/3", "true 1 0"},
		{"the struts push too much", square, crossed, "1 1 1 1 -2 -2", "false 1 2"},
		{"the struts push too little", square, crossed, "1 1 1 1 -1/2 -1/2", "false 3 0"},
		{"one strut of them", square, crossed, "1 1 1 1 -1 -1/2", "false 2 0"},
		{"one strut that pushes more", square, crossed, "1 1 1 1 -1 -2", "false 1 1"},
		{"all pull", square, crossed, "1 1 1 1 1 1", "false 3 0"},
		{"all push", square, crossed, "-1 -1 -2 -1 -1 -7", "false 0 3"},
		{"no square by itself", square, crossed, "5 -3 5 -3 -2 -2", "false 2 1"},
		{"no square by itself, behind a joint alone", "9,9 " + square, "1-2 2-3 3-4 4-1 1-3 2-4", "1 1 1 1 -2 -2", "false 1 2"},
		{"none but two", square, crossed, "1 1 1 1 -2 -3", "false 1 2"},
		{"in a line", "0,0 1,0 3,0", "0-1 1-2 0-2", "6 3 -2", "true 1 0"},
		{"in a line, upwards", "0,0 0,1 0,3", "0-1 1-2 0-2", "6 3 -2", "true 1 0"},
		{"in a line, askew", "0,0 1,2 3,6", "0-1 1-2 2-0", "6 3 -2", "true 1 0"},
		{"a chain that pulls and pushes", "0,0 1,0 3,0", "0-1 1-2", "1 -1", "false 1 1"},
		{"the same two joints twice, to 0", "0,0 1,0", "0-1 1-0", "5 -5", "true 0 0"},
		{"the same two joints twice", "0,0 1,0", "0-1 1-0", "5 -6", "false 0 1"},
		{"the same two joints thrice", "0,0 1,0 3,0", "0-1 1-2 2-0 1-0 0-1", "1 3 -2 7 -2", "true 1 0"},
		{"joints at one place", "0,0 1,0 0,0", "0-1 1-2", "1 -1", "false 1 1"},
		{"joints at one place, even", "0,0 1,0 0,0 -1,0", "0-1 0-3 1-2 3-2", "1 1 -1 -1", "true 1 1"},
		{"two parts", square + " 5,0 7,0", crossed + " 4-5", "1 1 1 1 -1 -1 -3", "false 1 1"},
		{"two parts that are even", square + " 5,5 6,5 8,5", crossed + " 4-5 5-6 4-6", "1 1 1 1 -1 -1 -6 -3 2", "true 1 1"},
		{"parts and joints alone", "9,9 0,0 1,0 7,7 3,0 4,0 8,8", "1-2 4-5", "1 2", "false 2 0"},
	} {
		f := drawn(c.places, c.bars, "")
		if got := firm(t, f, numbers(c.q)); got != c.want {
			t.Errorf("%s: %s, want %s", c.what, got, c.want)
		}
	}
}

// What pulls at all joints of a bar comes to 0, so that at no time one joint alone isn't even: two are the fewest.
func TestFirmEvenButForTwoJoints(t *testing.T) {
	for _, c := range []struct {
		what, places, bars, q string
		x, y                  int // at how many joints it isn't even, in each way
	}{
		{"even", square, crossed, "1 1 1 1 -1 -1", 0, 0},
		{"the first two, in X", square, crossed, "2 1 1 1 -1 -1", 2, 0},
		{"the middle two, in Y", square, crossed, "1 2 1 1 -1 -1", 0, 2},
		{"the last two, in X", square, crossed, "1 1 999/1000 1 -1 -1", 2, 0},
		{"the outer two, in Y", square, crossed, "1 1 1 0 -1 -1", 0, 2},
		{"two, in both", square, crossed, "1 1 1 1 -1 -2", 2, 2},
		{"a bar along", "0,0 1,0 5,5", "0-1", "1", 2, 0},
		{"a bar up", "5,5 0,0 0,1", "1-2", "1", 0, 2},
		{"all four, in X", square, crossed, "2 1 2 1 -1 -1", 4, 0},
	} {
		f := drawn(c.places, c.bars, "")
		x, y := 0, 0
		for _, p := range pulled(f, numbers(c.q), nil, pairs(f.Joints)) {
			x += p[0].Sign() * p[0].Sign()
			y += p[1].Sign() * p[1].Sign()
		}
		if x != c.x || y != c.y {
			t.Errorf("%s: at %d joints in X, %d in Y, want %d and %d", c.what, x, y, c.x, c.y)
		}
		if got := firm(t, f, numbers(c.q)); strings.HasPrefix(got, "true") != (x+y == 0) {
			t.Errorf("%s: %s", c.what, got)
		}
	}
}

// Holds, By, C, E, Least and Most say nothing, nor does how the numbers are written.
func TestFirmByWhatCounts(t *testing.T) {
	for _, q := range []string{"1 1 1 1 -1 -1", "03/3 2/2 1 001 -1/1 -4/4"} {
		for _, holds := range []string{"", supports, "0x 0y 1x 1y 2x 2y 3x 3y"} {
			f := drawn(square, crossed, holds)
			for i := range f.Holds {
				f.Holds[i].By = "5"
			}
			for i := range f.Bars {
				f.Bars[i].C, f.Bars[i].E, f.Bars[i].Least, f.Bars[i].Most = "7/3", api.Q(fmt.Sprint(i)), "-9", "1/9"
			}
			f.Joints[0] = spot("x", "-0/9")
			f.Joints[2] = spot("4/4", "01")
			if got := firm(t, f, numbers(q)); got != "true 1 0" {
				t.Errorf("%s, held %s: %s", q, holds, got)
			}
		}
	}
	for _, q := range []string{"", "x", "1/0", "-1/0", "-", "/", "+1", "1.0", " 1", "1 ", "1/-1", "--1", "1//1", "٣"} {
		f := drawn(square, crossed, "")
		even := numbers("1 1 1 1 -1 -1")
		even[5] = api.Q(q)
		if got := firm(t, f, even); got != "false 2 0" {
			t.Errorf("%q doesn't count as 0: %s", q, got)
		}
		for i := range even {
			even[i] = api.Q(q)
		}
		if got := firm(t, f, even); got != "true 0 0" {
			t.Errorf("%q doesn't count as 0: %s", q, got)
		}
	}
}

// As many joints and bars as may be.
func TestFirmOfMost(t *testing.T) {
	f := most()
	for q, want := range map[string]string{"1 ": "false 9 0", "-1/3 ": "false 0 9", "0 ": "true 0 0", "1/0 ": "true 0 0"} {
		if got := firm(t, f, numbers(strings.Repeat(q, api.MaxBars))); got != want {
			t.Errorf("%s: %s, want %s", q, got, want)
		}
	}
	one := drawn("0,0 1,0", strings.Repeat("0-1 ", api.MaxBars), "")
	if got := firm(t, one, numbers(strings.Repeat("1 ", api.MaxBars-1)+"-23")); got != "true 0 0" {
		t.Errorf("one bar often: %s", got)
	}
	if got := firm(t, one, numbers(strings.Repeat("1 ", api.MaxBars-1)+"-24")); got != "false 0 1" {
		t.Errorf("one bar often: %s", got)
	}
}

func TestExamples(t *testing.T) {
	s, g := cable.Shape(drawn(hung, cables, feet), numbers("1 1"), pulls("0=0,-4"))
	if got := fmt.Sprint(s, g); got != "[{1 -2} {0 0} {2 0}] {0 0}" {
		t.Errorf("%s", got)
	}
	even, plus, minus, g := cable.Firm(drawn(square, crossed, ""), numbers("1 1 1 1 -1 -1"))
	if got := fmt.Sprint(even, plus, minus, g); got != "true 1 0 {0 0}" {
		t.Errorf("%s", got)
	}
}
