package swing_test

import (
	"fmt"
	"reflect"
	"slices"
	"testing"

	"rafter/api"
	"rafter/swing"
)

// given is all that is handed in.
type given struct {
	f      api.Frame
	masses []api.Q
	motion []api.Spot
}

// roomy is all of it with room behind each list, filled like the list.
func (g given) roomy() given {
	f := api.Frame{Joints: slices.Repeat(g.f.Joints, 2), Bars: slices.Repeat(g.f.Bars, 2), Holds: slices.Repeat(g.f.Holds, 2)}
	return given{f, slices.Repeat(g.masses, 2), slices.Repeat(g.motion, 2)}
}

// front is the part of each list that is handed in.
func (g given) front(like given) given {
	f := api.Frame{Joints: g.f.Joints[:len(like.f.Joints)], Bars: g.f.Bars[:len(like.f.Bars)], Holds: g.f.Holds[:len(like.f.Holds)]}
	return given{f, g.masses[:len(like.masses)], g.motion[:len(like.motion)]}
}

// answers is all that is told of it.
func (g given) answers() string {
	n, g1 := swing.Below(g.f, g.masses, "04/3")
	low, g2 := swing.Lowest(g.f, g.masses, 5)
	q, g3 := swing.Quotient(g.f, g.masses, g.motion)
	return fmt.Sprintf("%d %v %q %v %q %v", n, g1, low, g2, q, g3)
}

func TestOnlyRead(t *testing.T) {
	odd := drawn("0/5,x 010/10,-0 1,1/1 ,4/4", sides+" 0-2*06/4", supports)
	wrong := drawn(square, sides+" 2-2", supports)
	for _, f := range []api.Frame{drawn(rights, rightly, feet), drawn(line, links, walls), drawn(square, sides, ""), most(), odd, wrong} {
		n := len(f.Joints)
		masses := slices.Repeat(numbers("03/6 1 2/1"), 4)[:n]
		for _, masses := range [][]api.Q{masses, masses[1:], slices.Repeat(numbers("02/2 -1 x"), 4)[:n], nil} {
			for _, motion := range [][]api.Spot{standing(f), moved(n), make([]api.Spot, n), slices.Repeat(spots("x,-0"), n+1), nil} {
				all := given{f, masses, motion}
				full := all.roomy()
				part := full.front(all)
				first := part.answers()
				if !reflect.DeepEqual(full, all.roomy()) {
					t.Errorf("what was handed in has become %v", full)
				}
				if again := part.answers(); again != first {
					t.Errorf("%s, then %s", first, again)
				}
			}
		}
	}
}

// Lists that have nothing in them may be nil or empty.
func TestNilOrEmpty(t *testing.T) {
	nils := given{api.Frame{Joints: spots("1,2")}, ones(1), spots("1,1")}
	empty := given{api.Frame{Joints: spots("1,2"), Bars: []api.Bar{}, Holds: []api.Hold{}}, ones(1), spots("1,1")}
	if a, b := nils.answers(), empty.answers(); a != b || a != `2 {0 0} "0" {0 0} "0" {0 0}` {
		t.Errorf("%s, %s", a, b)
	}
	nils.masses, empty.masses = nil, []api.Q{}
	if a, b := nils.answers(), empty.answers(); a != b || a != `0 {10 0} "" {10 0} "" {10 0}` {
		t.Errorf("no masses: %s, %s", a, b)
	}
	nils.masses, empty.masses = ones(1), ones(1)
	nils.motion, empty.motion = nil, []api.Spot{}
	if a, b := nils.answers(), empty.answers(); a != b || a != `2 {0 0} "0" {0 0} "" {10 0}` {
		t.Errorf("no motion: %s, %s", a, b)
	}
}
