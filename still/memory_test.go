package still_test

import (
	"fmt"
	"reflect"
	"slices"
	"testing"

	"rafter/api"
	"rafter/still"
)

// roomy has every list with some room behind it, filled like the list.
func roomy(f api.Frame) api.Frame {
	return api.Frame{Joints: slices.Repeat(f.Joints, 2), Bars: slices.Repeat(f.Bars, 2), Holds: slices.Repeat(f.Holds, 2)}
}

func TestOnlyRead(t *testing.T) {
	odd := drawn("0/5,x 010/10,-0 1,1/1 ,4/4", sides, supports)
	wrong := drawn(square, sides+" 2-2", supports)
	loads := []api.Load{load(2, "02/4", "-0"), load(0, "", "1/0")}
	noJoint := []api.Load{load(2, "1", "1"), load(77, "1", "1")}
	for _, f := range []api.Frame{drawn(square, sides+" 0-2", supports), drawn(square, sides+" 0-2 1-3", ""), most(), odd, wrong} {
		for _, l := range [][]api.Load{loads, noJoint} {
			given, givenLoads := roomy(f), slices.Repeat(l, 2)
			part := api.Frame{Joints: given.Joints[:len(f.Joints)], Bars: given.Bars[:len(f.Bars)], Holds: given.Holds[:len(f.Holds)]}
			first := allOf(part, givenLoads[:len(l)])
			if !reflect.DeepEqual(given, roomy(f)) || !reflect.DeepEqual(givenLoads, slices.Repeat(l, 2)) {
				t.Errorf("what was handed in has become %v %v", given, givenLoads)
			}
			if again := allOf(part, givenLoads[:len(l)]); again != first {
				t.Errorf("%s, then %s", first, again)
			}
		}
	}
}

// filled writes over a whole list, the room behind it, too.
func filled[T any](l []T, with T) {
	l = l[:cap(l)]
	for i := range l {
		l[i] = with
	}
}

// apart fails if writing over one thing, by fill, is seen in what look tells.
func apart(t *testing.T, what string, fill func(), look func() string) {
	t.Helper()
	before := look()
	fill()
	if after := look(); after != before {
		t.Errorf("%s: %s, then %s", what, before, after)
	}
}

// Lists of an answer are its own: what is written into one is seen in no other list, and in no later answer.
func TestListsOfTheirOwn(t *testing.T) {
	f := drawn(square+" 5,5 7,7", sides+" 0-2 1-3 0-2", supports+" 4x 4y")
	later := func() string { return allOf(f, nil) }
	s, _ := still.Stresses(f)
	m, _ := still.Motions(f)
	if len(s) != 2 || len(m) != 2 {
		t.Fatalf("%v %v", s, m)
	}
	for i := range s {
		apart(t, "bars", func() { filled(s[i].Bars, "9") }, func() string { return fmt.Sprint(s[i].Holds, s[1-i], later()) })
		apart(t, "holds", func() { filled(s[i].Holds, "8") }, func() string { return fmt.Sprint(s[i].Bars, s[1-i], later()) })
		apart(t, "motion", func() { filled(m[i], spot("7", "7")) }, func() string { return fmt.Sprint(m[1-i], later()) })
	}
	apart(t, "lists of lists", func() { filled(s, api.Stress{}); filled(m, nil) }, later)
	c, _ := still.Carry(drawn(triangle, "0-1 1-2 2-0", supports), nil)
	apart(t, "Carry's bars", func() { filled(c.Bars, "9") }, func() string { return fmt.Sprint(c.Holds) })
	apart(t, "Carry's holds", func() { filled(c.Holds, "8") }, func() string { return fmt.Sprint(c.Bars) })
}
