package near_test

import (
	"fmt"
	"reflect"
	"slices"
	"testing"

	"rafter/api"
	"rafter/near"
)

// roomy has every list with some room behind it, filled like the list.
func roomy(f api.Frame) api.Frame {
	return api.Frame{Joints: slices.Repeat(f.Joints, 2), Bars: slices.Repeat(f.Bars, 2), Holds: slices.Repeat(f.Holds, 2)}
}

func TestOnlyRead(t *testing.T) {
	odd := drawn("0/5,x 010/10,-0 1,1/1 ,4/4", sides, supports)
	wrong := drawn(square, sides+" 2-2", supports)
	for _, f := range []api.Frame{drawn(square, sides+" 0-2 1-3", supports), most(), odd, wrong, drawn("1,1", "", "")} {
		for _, n := range []int{len(f.Bars), len(f.Bars) + 1} {
			bars := slices.Repeat([]api.Q{"-03/6"}, n)
			given, givenBars := roomy(f), slices.Repeat(bars, 2)
			part := api.Frame{Joints: given.Joints[:len(f.Joints)], Bars: given.Bars[:len(f.Bars)], Holds: given.Holds[:len(f.Holds)]}
			first := allOf(part, givenBars[:n])
			if !reflect.DeepEqual(given, roomy(f)) || !slices.Equal(givenBars, slices.Repeat(bars, 2)) {
				t.Errorf("what was handed in has become %v %v", given, givenBars)
			}
			if again := allOf(part, givenBars[:n]); again != first {
				t.Errorf("%s, then %s", first, again)
			}
		}
	}
}

// What is written into an answer, the room behind it, too, is seen in nothing that was handed in, and in no later answer.
func TestListsOfTheirOwn(t *testing.T) {
	f, bars := drawn(square, sides+" 0-2 1-3", supports), []api.Q{"1", "2", "3", "-4", "5", "0"}
	look := func() string { return fmt.Sprint(f, bars, allOf(f, bars)) }
	before := look()
	l, _ := near.Long(f)
	p, _ := near.Pulls(f, bars)
	told := fmt.Sprint(p)
	for i := range l[:cap(l)] {
		l[:cap(l)][i] = 99
	}
	if fmt.Sprint(p) != told {
		t.Errorf("%v, then %v", told, p)
	}
	for i := range p[:cap(p)] {
		p[:cap(p)][i] = 98
	}
	if after := look(); after != before {
		t.Errorf("%s, then %s", before, after)
	}
}
