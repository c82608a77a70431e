package pebble_test

import (
	"fmt"
	"slices"
	"testing"

	"rafter/api"
	"rafter/pebble"
)

// allOf writes what all calls tell of a graph.
func allOf(n int, edges [][2]int) string {
	a, fa := pebble.Free(n, edges)
	b, fb := pebble.Rigid(n, edges)
	c, fc := pebble.Over(n, edges)
	return fmt.Sprint(pebble.Check(n, edges), a, fa, b, fb, c, fc)
}

func TestOnlyRead(t *testing.T) {
	for _, l := range [][][2]int{drawn(square + " 2-0 3-1"), drawn(threes + " 5-3"), drawn("4-3 " + fourFull), drawn(square + " 3-2"), allJoined(api.MaxPoints)} {
		for _, n := range []int{0, 4, 6, api.MaxPoints} {
			given := slices.Repeat(l, 2)
			first := allOf(n, given[:len(l)])
			if !slices.Equal(given, slices.Repeat(l, 2)) {
				t.Errorf("what was handed in has become %v", given)
			}
			if again := allOf(n, given[:len(l)]); again != first {
				t.Errorf("%s, then %s", first, again)
			}
		}
	}
}

// What is written over an answer is seen in no other one.
func TestListsOfTheirOwn(t *testing.T) {
	l := drawn(square + " 2-0 3-1")
	want := allOf(4, l)
	for _, call := range []func(int, [][2]int) ([]bool, api.Fault){pebble.Free, pebble.Over} {
		a, _ := call(4, l)
		b, _ := call(4, l)
		before := told(b)
		a = a[:cap(a)]
		for i := range a {
			a[i] = !a[i]
		}
		if told(b) != before || allOf(4, l) != want {
			t.Errorf("%s, then %s; all: %s, want %s", before, told(b), allOf(4, l), want)
		}
	}
}

// Calls that run at one time don't share what they work with.
func TestAtOneTime(t *testing.T) {
	graphs := [][][2]int{drawn(square + " 2-0 3-1"), drawn(threes + " 5-3"), drawn(prism), allJoined(api.MaxPoints)}
	var want []string
	for _, l := range graphs {
		want = append(want, allOf(api.MaxPoints, l))
	}
	got := make(chan [2]string)
	for i := range 40 {
		go func() { got <- [2]string{allOf(api.MaxPoints, graphs[i%4]), want[i%4]} }()
	}
	for range 40 {
		if p := <-got; p[0] != p[1] {
			t.Errorf("%s, want %s", p[0], p[1])
		}
	}
}
