package limit_test

import (
	"fmt"
	"reflect"
	"slices"
	"testing"

	"rafter/api"
	"rafter/limit"
)

// roomy has every list with some room behind it, filled like the list.
func roomy(f api.Frame) api.Frame {
	return api.Frame{Joints: slices.Repeat(f.Joints, 2), Bars: slices.Repeat(f.Bars, 2), Holds: slices.Repeat(f.Holds, 2)}
}

// given is all that is handed in.
type given struct {
	f      api.Frame
	l      []api.Load
	stress api.Stress
	motion []api.Spot
}

// roomier is all of it, with room behind each list.
func (g given) roomier() given {
	s := api.Stress{Bars: slices.Repeat(g.stress.Bars, 2), Holds: slices.Repeat(g.stress.Holds, 2)}
	return given{roomy(g.f), slices.Repeat(g.l, 2), s, slices.Repeat(g.motion, 2)}
}

// front is the part of each list that is handed in.
func (g given) front(like given) given {
	f := api.Frame{Joints: g.f.Joints[:len(like.f.Joints)], Bars: g.f.Bars[:len(like.f.Bars)], Holds: g.f.Holds[:len(like.f.Holds)]}
	s := api.Stress{Bars: g.stress.Bars[:len(like.stress.Bars)], Holds: g.stress.Holds[:len(like.stress.Holds)]}
	return given{f, g.l[:len(like.l)], s, g.motion[:len(like.motion)]}
}

// answers is all that is told of it.
func (g given) answers() string {
	c, g1 := limit.Carries(g.f, g.l)
	ok, g2 := limit.Safe(g.f, g.l, "03/3", g.stress)
	q, g3 := limit.Breaks(g.f, g.l, g.motion)
	return fmt.Sprint(c, g1, ok, g2, q, g3)
}

func TestOnlyRead(t *testing.T) {
	odd := drawn("0/5,x 010/10,-0 1,1/1 ,4/4", "0-1:-02/4:x 1-2:-0:4/2 2-3 3-0:y:1/0 0-2", supports)
	loads := []api.Load{load(2, "02/4", "-0"), load(0, "", "1/0")}
	noJoint := []api.Load{load(2, "1", "1"), load(77, "1", "1")}
	for _, f := range []api.Frame{drawn(square, sides+" 0-2 1-3", supports), drawn(square, sides, ""), most(), odd, drawn(square, sides+" 2-2", supports)} {
		for _, l := range [][]api.Load{loads, noJoint, nil} {
			s := api.Stress{Bars: slices.Repeat([]api.Q{"03/6"}, len(f.Bars)), Holds: slices.Repeat([]api.Q{"-0"}, len(f.Holds))}
			m := make([]api.Spot, len(f.Joints))
			m[len(m)/2] = spot("2/2", "x")
			all := given{f, l, s, m}
			full := all.roomier()
			part := full.front(all)
			first := part.answers()
			if !reflect.DeepEqual(full, all.roomier()) {
				t.Errorf("what was handed in has become %v", full)
			}
			if again := part.answers(); again != first {
				t.Errorf("%s, then %s", first, again)
			}
		}
	}
}

// filled writes over a whole list, the room behind it, too.
func filled[T any](l []T, with T) {
	l = l[:cap(l)]
	for i := range l {
		l[i] = with
	}
}

// apart fails if writing over one thing, by fill, is seen in what look tells.
func apart(t *testing.T, what string, fill func(), look func() string) {
	t.Helper()
	before := look()
	fill()
	if after := look(); after != before {
		t.Errorf("%s: %s, then %s", what, before, after)
	}
}

// Lists of an answer are its own: what is written into one is seen in no other list, in nothing that was handed in, and in no later answer.
func TestListsOfTheirOwn(t *testing.T) {
	f := drawn(square, sides+" 0-2 1-3", supports)
	l := []api.Load{load(2, "1", "5"), load(3, "1", "0")}
	c, _ := limit.Carries(f, l)
	others := func() string { return fmt.Sprint(f, l, given{f: f, l: l}.answers()) }
	apart(t, "motion", func() { filled(c.Motion, spot("9", "9")) }, func() string { return fmt.Sprint(c.Stress, others()) })
	apart(t, "bars", func() { filled(c.Stress.Bars, "8") }, func() string { return fmt.Sprint(c.Motion, c.Stress.Holds, others()) })
	apart(t, "holds", func() { filled(c.Stress.Holds, "7") }, func() string { return fmt.Sprint(c.Motion, c.Stress.Bars, others()) })
}
