package give_test

import (
	"fmt"
	"reflect"
	"slices"
	"testing"

	"rafter/api"
	"rafter/give"
)

// roomy has every list with some room behind it, filled like the list.
func roomy(f api.Frame) api.Frame {
	return api.Frame{Joints: slices.Repeat(f.Joints, 2), Bars: slices.Repeat(f.Bars, 2), Holds: slices.Repeat(f.Holds, 2)}
}

func TestOnlyRead(t *testing.T) {
	odd := drawn("0/5,x 010/10,-0 1,1/1 ,4/4", "0-1*02/4+x 1-2*7+-0 2-3*8/4+01 3-0 0-2*1+1/0", "0x=03 0y=y 1y=1/0")
	loads := []api.Load{load(2, "02/4", "-0"), load(0, "", "1/0")}
	noJoint := []api.Load{load(2, "1", "1"), load(77, "1", "1")}
	for _, f := range []api.Frame{drawn(square, sides+" 0-2*1+1 1-3", supports), drawn(square, sides, ""), most(), odd, drawn(square, sides+" 2-2", supports)} {
		for _, l := range [][]api.Load{loads, noJoint} {
			bars := slices.Repeat([]api.Q{"03/6"}, len(f.Bars))
			given, givenLoads, givenBars := roomy(f), slices.Repeat(l, 2), slices.Repeat(bars, 2)
			part := api.Frame{Joints: given.Joints[:len(f.Joints)], Bars: given.Bars[:len(f.Bars)], Holds: given.Holds[:len(f.Holds)]}
			first := allOf(part, givenLoads[:len(l)], givenBars[:len(bars)])
			if !reflect.DeepEqual(given, roomy(f)) || !reflect.DeepEqual(givenLoads, slices.Repeat(l, 2)) || !slices.Equal(givenBars, slices.Repeat(bars, 2)) {
				t.Errorf("what was handed in has become %v %v %v", given, givenLoads, givenBars)
			}
			if again := allOf(part, givenLoads[:len(l)], givenBars[:len(bars)]); again != first {
				t.Errorf("%s, then %s", first, again)
			}
		}
	}
}

// filled writes over a whole list, the room behind it, too.
func filled[T any](l []T, with T) {
	l = l[:cap(l)]
	for i := range l {
		l[i] = with
	}
}

// apart fails if writing over one thing, by fill, is seen in what look tells.
func apart(t *testing.T, what string, fill func(), look func() string) {
	t.Helper()
	before := look()
	fill()
	if after := look(); after != before {
		t.Errorf("%s: %s, then %s", what, before, after)
	}
}

// Lists of an answer are its own: what is written into one is seen in no other list, in nothing that was handed in, and in no later answer.
func TestListsOfTheirOwn(t *testing.T) {
	f := drawn(square, sides+" 0-2*1+1 1-3", "0x=1 0y 1y=2")
	l := []api.Load{load(2, "1", "5")}
	m, _ := give.Move(f, l)
	others := func() string { return fmt.Sprint(f, l, allOf(f, l, []api.Q{"1", "2", "3", "4", "5", "6"})) }
	apart(t, "joints", func() { filled(m.Joints, spot("9", "9")) }, func() string { return fmt.Sprint(m.Stress, others()) })
	apart(t, "bars", func() { filled(m.Stress.Bars, "8") }, func() string { return fmt.Sprint(m.Joints, m.Stress.Holds, others()) })
	apart(t, "holds", func() { filled(m.Stress.Holds, "7") }, func() string { return fmt.Sprint(m.Joints, m.Stress.Bars, others()) })
}
