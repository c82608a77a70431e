package arch_test

import (
	"fmt"
	"slices"
	"strings"
	"testing"

	"rafter/api"
	"rafter/arch"
)

func fault(code api.Errno, at int) api.Fault { return api.Fault{Code: code, At: at} }

// drawn makes stones of words: place, a : and Low; then, if High is another, .. and it; then, if it weighs anything, * and how much.
func drawn(stones string) []api.Stone {
	var l []api.Stone
	for _, w := range strings.Fields(stones) {
		w, weight, _ := strings.Cut(w, "*")
		at, heights, _ := strings.Cut(w, ":")
		low, high, wide := strings.Cut(heights, "..")
		if !wide {
			high = low
		}
		l = append(l, api.Stone{At: api.Q(at), Weight: api.Q(weight), Low: api.Q(low), High: api.Q(high)})
	}
	return l
}

func heights(words string) []api.Q {
	var l []api.Q
	for _, w := range strings.Fields(words) {
		l = append(l, api.Q(w))
	}
	return l
}

// toldSlacks is "none", or the least and the greatest one, or the least one and "on".
func toldSlacks(t *testing.T, l []api.Stone) string {
	t.Helper()
	least, most, open, f := arch.Slacks(l)
	if f != (api.Fault{}) {
		if least != "" || most != "" || open || f != fault(api.ErrNone, 0) {
			t.Errorf("%v: %q %q %v %v", l, least, most, open, f)
		}
		return "none"
	}
	if open && most != "" || !open && most == "" {
		t.Errorf("%v: open %v, most %q", l, open, most)
	}
	if open {
		return string(least) + " on"
	}
	return string(least) + " " + string(most)
}

func TestSlacks(t *testing.T) {
	for _, c := range []struct {
		what, stones, want string
	}{
		{"a least and a greatest", "0:0 1:1..2*1 2:0", "2 4"},
		{"a stone off the middle", "0:0 1:1..2*1 4:0", "4/3 8/3"},
		{"heavier", "0:0 1:1..2*3 2:0", "2/3 4/3"},
		{"lighter", "0:0 1:1..2*1/3 2:0", "6 12"},
		{"what the ends weigh says nothing", "0:0*7 1:1..2*1 2:0*1/9", "2 4"},
		{"wide ends", "0:-1..1 1:1..2*1 2:-1..1", "0 6"},
		{"on a slope", "0:10 1:6..7*1 2:0", "2 4"},
		{"far off", "-101:0 -100:1..2*1 -99:0", "2 4"},
		{"two stones between", "0:0 1:1..2*1 2:1..3*1 3:0", "1 2"},
		{"the least by one stone, the greatest by another", "0:0 2:0..3*1 4:1..9*1 6:0", "1/2 3/2"},
		{"the least slack is 0", "0:0 1:-1..1*1 2:0", "0 2"},
		{"the least slack is 0, just", "0:0 1:0..1*1 2:0", "0 2"},
		{"0 alone", "0:0 1:-1..0*1 2:0", "0 0"},
		{"just one slack", "0:0 1:1*1 2:1*1 3:0", "1 1"},
		{"just one slack, though stones are wide", "0:0 1:0..1*1 2:1..2*1 3:-1..0", "1 1"},
		{"a narrow one between wide ones", "0:0..4 1:1..3*1 2:3*1 3:-5..1 4:-5..0", "2 3"},
		{"Low is High everywhere, and at one it falls by too much", "0:0 1:1*1/2 3:2*1 4:2 6:2", "none"},
		{"Low is High everywhere, and it fits", "0:0 1:4*1 2:6*3 3:2*1/2", "2 2"},
		{"Low is High everywhere, and the last stone weighs nothing", "0:0 1:4*1 2:6*3 3:2 4:-2", "2 2"},
		{"below the straight line", "0:0 1:-1*1 2:0", "none"},
		{"just below the straight line", "0:0 1:-1..-1/1000*1 2:0", "none"},
		{"too much is asked by two stones", "0:0 1:1*1 2:1*2 3:0", "none"},
		{"a stone that weighs nothing sticks out", "0:0 1:1 2:0", "none"},
		{"a stone that weighs nothing sticks out of what others have", "0:0 1:1..2*1 2:0 3:0 4:-1", "none"},
		{"a stone that weighs nothing, between others", "0:0 1:0..1*1 2:0..1 3:0..1*1 4:0", "0 1"},
		{"weights of 0 at both sides", "0:0 1:0..1 2:0..3*1 3:0..1 4:0", "0 2"},
		{"weights of 0 at both sides, all on the line", "0:0 1:1 2:2*1 3:1 4:0", "2 2"},
		{"two stones", "0:0 1:1", "0 on"},
		{"two stones, wide and heavy", "0:-1..1*3 1:5..7*4", "0 on"},
		{"three stones in a row that weigh nothing between", "0:0*1 1:1 2:2*1", "0 on"},
		{"nothing is heavy, wide ones", "0:0 1:0..9 2:-9..0 3:0", "0 on"},
		{"nothing is heavy, narrow ones", "0:0..1 1:2..3 2:3 3:7/2..4 9:6..10", "0 on"},
		{"nothing is heavy, and none is straight", "0:0..1 1:2..3 2:3 3:7/2..15/4 9:10..11", "none"},
		{"as many stones as there may be", "0:0 1:8..9*2 2:14..15*2 3:18..19*2 4:20..21*2 5:20..21*2 6:18..19*2 7:14..15*2 8:8..9*2 9:0", "1 21/20"},
	} {
		if got := toldSlacks(t, drawn(c.stones)); got != c.want {
			t.Errorf("%s: %s, want %s", c.what, got, c.want)
		}
	}
}

func TestLineOfSlacks(t *testing.T) {
	for _, c := range []struct {
		stones string
		has    string
		hasNot string
	}{
		{"0:0 1:1..2*1 2:0", "2 9/4 3 399/100 4", "0 1 1999999/1000000 4000001/1000000 5 9999999999999999999999"},
		{"0:0 1:-1..1*1 2:0", "0 1/1000000 1 2 x -0 1/0", "2000001/1000000 3"},
		{"0:0 1:1*1 2:1*1 3:0", "1 7/7", "0 999999/1000000 1000001/1000000"},
		{"0:0 1:-1..0*1 2:0", "0", "1/1000000 1"},
		{"0:0*5 1:1*3", "0 1 7/3 99999999999999999999999", ""},
		{"0:0..1 1:2..3 2:3 3:7/2..4 9:6..10", "0 1 7/3 99999999999999999999999", ""},
		{"0:0 1:1 2:0", "", "0 1 2 7/3 99999999999999999999999"},
		{"0:0 1:1*1 2:1*2 3:0", "", "0 1/2 1 2 7/3"},
		{"0:0..4 1:1..3*1 2:3*1 3:-5..1 4:-5..0", "2 5/2 3", "0 199/100 301/100"},
	} {
		l := drawn(c.stones)
		for _, h := range heights(c.has) {
			y, f := arch.Line(l, h)
			if why := noLine(l, h, y); why != "" || f != (api.Fault{}) {
				t.Errorf("%s: slack %s: %v %v: %s", c.stones, h, y, f, why)
			}
		}
		for _, h := range heights(c.hasNot) {
			if y, f := arch.Line(l, h); y != nil || f != fault(api.ErrNone, 0) {
				t.Errorf("%s: slack %s: %v %v", c.stones, h, y, f)
			}
		}
	}
}

// Where just one line fits, that one is told.
func TestOnlyLine(t *testing.T) {
	for _, c := range []struct {
		stones string
		slack  api.Q
		want   string
	}{
		{"0:0 1:1..2*1 2:0", "2", "0 1 0"},
		{"0:0 1:1..2*1 2:0", "3", "0 3/2 0"},
		{"0:0 1:1..2*1 2:0", "4", "0 2 0"},
		{"0:0*3 1:1..2*1 4:0*3", "2", "0 3/2 0"},
		{"0:-1..1 1:1..2*1 2:-1..1", "6", "-1 2 -1"},
		{"0:0 1:0..1*1 2:1..2*1 3:-1..0", "1", "0 1 1 0"},
		{"0:0 1:0..1*1 2:0..1 3:0..1*1 4:0", "1", "0 1 1 1 0"},
		{"0:0 1:-5..5 4:6", "7", "0 3/2 6"},
		{"1/3:02/4 5/3:-3", "1", "1/2 -3"},
		{"0:0 1:4*1 2:6*3 3:2 4:-2", "2", "0 4 6 2 -2"},
	} {
		y, f := arch.Line(drawn(c.stones), c.slack)
		if got := fmt.Sprint(y); got != "["+c.want+"]" || f != (api.Fault{}) {
			t.Errorf("%s: slack %s: %s %v, want %s", c.stones, c.slack, got, f, c.want)
		}
	}
}

func TestStands(t *testing.T) {
	const wide = "0:-20..20 1:-20..20*1 3:-20..20 4:-20..20*2 5:-20..20*7"
	for _, c := range []struct {
		what, stones, slack, heights string
		want                         bool
	}{
		{"a line", "0:0 1:1..2*1 2:0", "3", "0 3/2 0", true},
		{"at Low", "0:0 1:1..2*1 2:0", "2", "0 1 0", true},
		{"at High", "0:0 1:1..2*1 2:0", "4", "0 2 0", true},
		{"another slack", "0:0 1:1..2*1 2:0", "2", "0 3/2 0", false},
		{"just another slack", "0:0 1:1..2*1 2:0", "3000001/1000000", "0 3/2 0", false},
		{"just below Low", "0:0 1:1..2*1 2:0", "999999/500000", "0 999999/1000000 0", false},
		{"just above High", "0:0 1:1..2*1 2:0", "2000001/500000", "0 2000001/1000000 0", false},
		{"the first below Low", "0:0..1 1:1..2*1 2:0", "4", "-1 3/2 0", false},
		{"the first above High", "0:0..1 1:1..2*1 2:0", "1", "2 3/2 0", false},
		{"the last below Low", "0:0 1:1..2*1 2:0..1", "4", "0 3/2 -1", false},
		{"the last above High", "0:0 1:1..2*1 2:0..1", "1", "0 3/2 2", false},
		{"many stones", wide, "2", "0 5 11 14 13", true},
		{"many stones, otherwise", wide, "1", "0 3 7 9 9", true},
		{"many stones, straight", wide, "0", "-4 -3 -1 0 1", true},
		{"straight, but for the first", wide, "0", "-5 -3 -1 0 1", false},
		{"straight, but for the last", wide, "0", "-4 -3 -1 0 2", false},
		{"falls by too little at the first that weighs", wide, "1", "0 3 9 12 13", false},
		{"falls by too much at the first that weighs", wide, "1", "0 3 5 6 5", false},
		{"falls where nothing weighs", wide, "1", "0 3 7 8 7", false},
		{"rises where nothing weighs", wide, "1", "0 3 7 10 11", false},
		{"falls by too little at the last that counts", wide, "1", "0 3 7 9 10", false},
		{"falls by too much at the last that counts", wide, "1", "0 3 7 9 8", false},
		{"as if the first weighed", "0:0..9*1 1:0..9*1 2:0..9", "1", "5 5 4", true},
		{"rises instead", "0:0..9*1 1:0..9*1 2:0..9", "1", "5 5 6", false},
		{"two stones", "0:0..2*9 5:-1..1*9", "7", "2 -1", true},
		{"two stones, one above", "0:0..2*9 5:-1..1*9", "7", "5/2 -1", false},
		{"two stones, one below", "0:0..2*9 5:-1..1*9", "7", "0 -2", false},
		{"not by how they are written", "0:0 1:1..2*1 2:0", "06/2", "x 06/4 -0", true},
		{"what counts as 0", "0:0 1:0..2*1 2:0", "2/0", "1/0 +1 .", true},
	} {
		got, f := arch.Stands(drawn(c.stones), api.Q(c.slack), heights(c.heights))
		if got != c.want || f != (api.Fault{}) {
			t.Errorf("%s: %v %v", c.what, got, f)
		}
	}
}

// What isn't a number, and what is divided by 0, counts as 0; how a number is written says nothing.
func TestNumbersThatCountAsNought(t *testing.T) {
	l := drawn("0:0 1:-1..1*1 2:0")
	for _, q := range []api.Q{"", "x", "1/0", " 0", "1 ", "+1", "--1", "1/", "/1", "1.5", "-", "1/-2", "1e3", "0/5", "-0", "000", "-0/7", "0/0", "１"} {
		m := slices.Clone(l)
		m[0] = api.Stone{At: q, Weight: q, Low: q, High: q}
		m[2].Low, m[2].High, m[2].Weight = q, q, q
		if got := toldSlacks(t, m); got != "0 2" {
			t.Errorf("%q: %s", q, got)
		}
		if y, f := arch.Line(m, q); fmt.Sprint(y) != "[0 0 0]" || f != (api.Fault{}) {
			t.Errorf("%q: %v %v", q, y, f)
		}
		if ok, f := arch.Stands(m, q, []api.Q{q, q, q}); !ok || f != (api.Fault{}) {
			t.Errorf("%q: %v %v", q, ok, f)
		}
		m[1].Weight = q
		if got := toldSlacks(t, m); got != "0 on" {
			t.Errorf("%q: %s", q, got)
		}
	}
	odd := drawn("-0/3:00 04/4:-7/7..02/2*3/3 6/3:0/9")
	if got := toldSlacks(t, odd); got != "0 2" {
		t.Errorf("%v: %s", odd, got)
	}
	if y, f := arch.Line(odd, "03/6"); fmt.Sprint(y) != "[0 1/4 0]" || f != (api.Fault{}) {
		t.Errorf("%v: %v %v", odd, y, f)
	}
}
