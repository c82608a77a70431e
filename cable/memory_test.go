package cable_test

import (
	"fmt"
	"reflect"
	"slices"
	"testing"

	"rafter/api"
	"rafter/cable"
)

// given is all that is handed in.
type given struct {
	f api.Frame
	q []api.Q
	l []api.Load
}

// roomy is all of it with room behind each list, filled like the list.
func (g given) roomy() given {
	f := api.Frame{Joints: slices.Repeat(g.f.Joints, 2), Bars: slices.Repeat(g.f.Bars, 2), Holds: slices.Repeat(g.f.Holds, 2)}
	return given{f, slices.Repeat(g.q, 2), slices.Repeat(g.l, 2)}
}

// front is the part of each list that is handed in.
func (g given) front(like given) given {
	f := api.Frame{Joints: g.f.Joints[:len(like.f.Joints)], Bars: g.f.Bars[:len(like.f.Bars)], Holds: g.f.Holds[:len(like.f.Holds)]}
	return given{f, g.q[:len(like.q)], g.l[:len(like.l)]}
}

// answers is all that is told of it.
func (g given) answers() string {
	s, g1 := cable.Shape(g.f, g.q, g.l)
	even, plus, minus, g2 := cable.Firm(g.f, g.q)
	return fmt.Sprint(s, g1, even, plus, minus, g2)
}

func TestOnlyRead(t *testing.T) {
	odd := drawn("0/5,x 010/10,-0 1,1/1 ,4/4", crossed, supports)
	wrong := drawn(square, sides+" 2-2", supports)
	loads := []api.Load{load(2, "02/4", "-0"), load(0, "", "1/0")}
	noJoint := []api.Load{load(0, "1", "1"), load(77, "1", "1")}
	for _, f := range []api.Frame{drawn(hung, cables, feet), drawn(chain, links, ends), drawn(square, crossed, ""), most(), odd, wrong} {
		for _, l := range [][]api.Load{loads, noJoint, nil} {
			q := slices.Repeat(numbers("03/6 -1 2/0 x -0 7"), 5)[:len(f.Bars)]
			for _, q := range [][]api.Q{q, ones(len(q)), q[1:], nil} {
				all := given{f, q, l}
				full := all.roomy()
				part := full.front(all)
				first := part.answers()
				if !reflect.DeepEqual(full, all.roomy()) {
					t.Errorf("what was handed in has become %v", full)
				}
				if again := part.answers(); again != first {
					t.Errorf("%s, then %s", first, again)
				}
			}
		}
	}
}

// The places that are told are a list of their own: what is written into it, and behind it, is seen nowhere else.
func TestListOfItsOwn(t *testing.T) {
	for _, all := range []given{
		{drawn(hung, cables, feet), numbers("1 1"), pulls("0=0,-4")},
		{most(), ones(api.MaxBars), nil},
	} {
		before := fmt.Sprint(all, all.answers())
		s, g := cable.Shape(all.f, all.q, all.l)
		if g != (api.Fault{}) || len(s) != len(all.f.Joints) {
			t.Fatalf("%v: %v %v", all, s, g)
		}
		whole := s[:cap(s)]
		for i := range whole {
			whole[i] = spot("99", "99")
		}
		if after := fmt.Sprint(all, all.answers()); after != before {
			t.Errorf("%s, then %s", before, after)
		}
	}
}

// Lists that have nothing in them may be nil or empty.
func TestNilOrEmpty(t *testing.T) {
	nils := given{api.Frame{Joints: spots("1,2")}, nil, nil}
	empty := given{api.Frame{Joints: spots("1,2"), Bars: []api.Bar{}, Holds: []api.Hold{}}, []api.Q{}, []api.Load{}}
	if a, b := nils.answers(), empty.answers(); a != b || a != "[] {9 0} true 0 0 {0 0}" {
		t.Errorf("%s, %s", a, b)
	}
}
