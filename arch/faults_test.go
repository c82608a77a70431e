package arch_test

import (
	"fmt"
	"strings"
	"testing"

	"rafter/api"
	"rafter/arch"
)

// plain has slacks from 2 to 4, and nothing is wrong in it.
func plain() []api.Stone { return drawn("0:0*5 1:1..2*1 2:0*5") }

// many are n stones, from place 0 on, that weigh nothing.
func many(n int) []api.Stone {
	l := make([]api.Stone, n)
	for i := range l {
		l[i].At = api.Q(fmt.Sprint(i))
	}
	return l
}

// wrong holds what all calls tell of l against want, whatever else they are given.
func wrong(t *testing.T, what string, l []api.Stone, want api.Fault) {
	t.Helper()
	if f := arch.Check(l); f != want {
		t.Errorf("%s: Check: %v, want %v", what, f, want)
	}
	if least, most, open, f := arch.Slacks(l); least != "" || most != "" || open || f != want {
		t.Errorf("%s: Slacks: %q %q %v %v, want %v", what, least, most, open, f, want)
	}
	for _, slack := range []api.Q{"0", "3", "-1", "x"} {
		if y, f := arch.Line(l, slack); y != nil || f != want {
			t.Errorf("%s: Line: %v %v, want %v", what, y, f, want)
		}
		for _, n := range []int{0, len(l), len(l) + 1} {
			if ok, f := arch.Stands(l, slack, make([]api.Q, n)); ok || f != want {
				t.Errorf("%s: Stands: %v %v, want %v", what, ok, f, want)
			}
		}
	}
}

func TestNothingWrong(t *testing.T) {
	for _, l := range [][]api.Stone{plain(), many(2), many(3), many(api.MaxStones), drawn("-5:1..1*0 x:0..0*x 1/100:-1..-1*1/9"), drawn("9:-1/2..-1/3 28/3:3")} {
		if f := arch.Check(l); f != (api.Fault{}) {
			t.Errorf("%v: %v", l, f)
		}
	}
}

func TestFaultsOfStones(t *testing.T) {
	wrong(t, "none", nil, fault(api.ErrMany, 0))
	wrong(t, "none, of a list", []api.Stone{}, fault(api.ErrMany, 0))
	wrong(t, "one", many(1), fault(api.ErrMany, 0))
	wrong(t, "one, wrong in itself", drawn("0:1..0*-1"), fault(api.ErrMany, 0))
	wrong(t, "one too many", many(api.MaxStones+1), fault(api.ErrMany, 0))
	wrong(t, "far too many", many(1000), fault(api.ErrMany, 0))
	wrong(t, "too many, all at one place", make([]api.Stone, api.MaxStones+1), fault(api.ErrMany, 0))
	wrong(t, "two at one place", make([]api.Stone, 2), fault(api.ErrOrder, 1))
	for _, c := range []struct {
		what string
		turn func(l []api.Stone)
		want api.Fault
	}{
		{"at the place of the one ahead", func(l []api.Stone) { l[2].At = "1" }, fault(api.ErrOrder, 2)},
		{"at the place of the one ahead, written otherwise", func(l []api.Stone) { l[1].At = "-0/3" }, fault(api.ErrOrder, 1)},
		{"at the place of the one ahead, no number", func(l []api.Stone) { l[1].At = "one" }, fault(api.ErrOrder, 1)},
		{"back", func(l []api.Stone) { l[2].At = "1/2" }, fault(api.ErrOrder, 2)},
		{"just back", func(l []api.Stone) { l[2].At = "999999/1000000" }, fault(api.ErrOrder, 2)},
		{"back below 0", func(l []api.Stone) { l[1].At = "-1" }, fault(api.ErrOrder, 1)},
		{"the first beyond the second", func(l []api.Stone) { l[0].At = "3/2" }, fault(api.ErrOrder, 1)},
		{"the first weighs less than nothing", func(l []api.Stone) { l[0].Weight = "-1" }, fault(api.ErrValue, 0)},
		{"one between weighs less than nothing", func(l []api.Stone) { l[1].Weight = "-1/1000000" }, fault(api.ErrValue, 1)},
		{"the last weighs less than nothing", func(l []api.Stone) { l[2].Weight = "-7" }, fault(api.ErrValue, 2)},
		{"Low of the first above High", func(l []api.Stone) { l[0].Low = "1/1000000" }, fault(api.ErrValue, 0)},
		{"Low above High", func(l []api.Stone) { l[1].Low = "3" }, fault(api.ErrValue, 1)},
		{"Low above High, which is no number", func(l []api.Stone) { l[1].High = "2 " }, fault(api.ErrValue, 1)},
		{"Low, no number, above High", func(l []api.Stone) { l[2].Low, l[2].High = "-1 ", "-1" }, fault(api.ErrValue, 2)},
		{"the order of one ahead of its weight", func(l []api.Stone) { l[1].At, l[1].Weight = "0", "-1" }, fault(api.ErrOrder, 1)},
		{"the order of one ahead of its heights", func(l []api.Stone) { l[2].At, l[2].Low = "0", "5" }, fault(api.ErrOrder, 2)},
		{"the first of two", func(l []api.Stone) { l[1].Weight, l[2].At = "-1", "0" }, fault(api.ErrValue, 1)},
		{"the first of two, told otherwise", func(l []api.Stone) { l[1].At, l[2].Weight = "-1", "-1" }, fault(api.ErrOrder, 1)},
		{"the first of three", func(l []api.Stone) { l[0].Low, l[1].At, l[2].Weight = "1", "0", "-1" }, fault(api.ErrValue, 0)},
	} {
		l := plain()
		c.turn(l)
		wrong(t, c.what, l, c.want)
	}
	last := many(api.MaxStones)
	last[api.MaxStones-1].Weight = "-1"
	wrong(t, "the last of all", last, fault(api.ErrValue, api.MaxStones-1))
}

// The number of heights is told ahead of a slack below 0, and both ahead of there being no line.
func TestFaultsOfSlacksAndHeights(t *testing.T) {
	for _, l := range [][]api.Stone{plain(), many(2), many(api.MaxStones), drawn("0:0 1:1 2:0 3:0")} {
		n := len(l)
		for _, slack := range []api.Q{"-1", "-1/1000000", api.Q("-" + strings.Repeat("9", 300)), "-02/2"} {
			if y, f := arch.Line(l, slack); y != nil || f != fault(api.ErrValue, n) {
				t.Errorf("%v: slack %s: %v %v", l, slack, y, f)
			}
			if ok, f := arch.Stands(l, slack, make([]api.Q, n)); ok || f != fault(api.ErrValue, n) {
				t.Errorf("%v: slack %s: %v %v", l, slack, ok, f)
			}
		}
		for _, slack := range []api.Q{"-1", "0", "3"} {
			for _, k := range []int{0, 1, n - 1, n + 1, 2 * n, 1000} {
				if k == n {
					continue
				}
				if ok, f := arch.Stands(l, slack, make([]api.Q, k)); ok || f != fault(api.ErrCount, n) {
					t.Errorf("%v: slack %s, %d heights: %v %v", l, slack, k, ok, f)
				}
			}
		}
		if ok, f := arch.Stands(l, "3", nil); ok || f != fault(api.ErrCount, n) {
			t.Errorf("%v: no heights: %v %v", l, ok, f)
		}
	}
}
