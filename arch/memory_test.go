package arch_test

import (
	"fmt"
	"reflect"
	"slices"
	"testing"

	"rafter/api"
	"rafter/arch"
)

// allOf is what all calls tell.
func allOf(l []api.Stone, slack api.Q, y []api.Q) string {
	least, most, open, f1 := arch.Slacks(l)
	line, f2 := arch.Line(l, slack)
	ok, f3 := arch.Stands(l, slack, y)
	return fmt.Sprint(arch.Check(l), least, most, open, f1, line, f2, ok, f3)
}

func TestOnlyRead(t *testing.T) {
	odd := drawn("-0:x..1/0*03/6 02/2:1..04/2*2/2 4/2:0..x*y")
	for _, l := range [][]api.Stone{plain(), odd, many(2), many(api.MaxStones), many(1), drawn("0:0 1:1 2:0"), drawn("0:0 1:1*-1 0:0"), nil} {
		for _, slack := range []api.Q{"04/2", "9", "-1", "x"} {
			y := slices.Repeat([]api.Q{"02/4", "x", "-0"}, 4)[:len(l)]
			stones, heights := slices.Repeat(l, 2), slices.Repeat(y, 2)
			first := allOf(stones[:len(l)], slack, heights[:len(y)])
			if !reflect.DeepEqual(stones, slices.Repeat(l, 2)) || !reflect.DeepEqual(heights, slices.Repeat(y, 2)) {
				t.Errorf("what was handed in has become %v, %v", stones, heights)
			}
			if again := allOf(stones[:len(l)], slack, heights[:len(y)]); again != first {
				t.Errorf("%s, then %s", first, again)
			}
		}
	}
}

// The heights that are told are a list of their own: what is written into it, and behind it, is seen nowhere else.
func TestListOfItsOwn(t *testing.T) {
	l := plain()
	y, _ := arch.Line(l, "2")
	want, before := fmt.Sprint(l, []api.Q{"0", "1", "0"}), allOf(l, "2", []api.Q{"0", "1", "0"})
	if got := fmt.Sprint(l, y); got != want {
		t.Errorf("%s, want %s", got, want)
	}
	whole := y[:cap(y)]
	for i := range whole {
		whole[i] = "99"
	}
	next, _ := arch.Line(l, "2")
	if got := fmt.Sprint(l, next); got != want {
		t.Errorf("%s, want %s", got, want)
	}
	if after := allOf(l, "2", []api.Q{"0", "1", "0"}); after != before {
		t.Errorf("%s, then %s", before, after)
	}
}
