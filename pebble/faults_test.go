package pebble_test

import (
	"math"
	"slices"
	"testing"

	"rafter/api"
	"rafter/pebble"
)

func fault(code api.Errno, at int) api.Fault { return api.Fault{Code: code, At: at} }

// everywhere holds what all calls tell of a graph that isn't right against want.
func everywhere(t *testing.T, what string, n int, edges [][2]int, want api.Fault) {
	t.Helper()
	if g := pebble.Check(n, edges); g != want {
		t.Errorf("%s: Check: %v, want %v", what, g, want)
	}
	if l, g := pebble.Free(n, edges); len(l) != 0 || g != want {
		t.Errorf("%s: Free: %v %v, want %v", what, l, g, want)
	}
	if r, g := pebble.Rigid(n, edges); r || g != want {
		t.Errorf("%s: Rigid: %v %v, want %v", what, r, g, want)
	}
	if l, g := pebble.Over(n, edges); len(l) != 0 || g != want {
		t.Errorf("%s: Over: %v %v, want %v", what, l, g, want)
	}
}

func TestTooManyOrTooFew(t *testing.T) {
	many := fault(api.ErrMany, 0)
	for _, n := range []int{0, -1, math.MinInt, api.MaxPoints + 1, math.MaxInt} {
		everywhere(t, "no edge", n, nil, many)
		everywhere(t, "an edge", n, [][2]int{{0, 1}}, many)
		everywhere(t, "ahead of all edges", n, [][2]int{{0, 1}, {0, 0}, {1, 0}}, many)
	}
	full := allJoined(api.MaxPoints)
	everywhere(t, "one edge more", api.MaxPoints, append(slices.Clip(full), [2]int{0, 1}), many)
	everywhere(t, "one edge more, of one point", api.MaxPoints, append([][2]int{{3, 3}}, full...), many)
	everywhere(t, "edges without points", 1, make([][2]int, api.MaxEdges+1), many)
}

func TestFaultsOfEdges(t *testing.T) {
	for _, c := range []struct {
		what  string
		n     int
		edges [][2]int
		want  api.Fault
	}{
		{"one point, joined to itself", 1, [][2]int{{0, 0}}, fault(api.ErrJoint, 0)},
		{"one point, joined to none", 1, [][2]int{{0, 1}}, fault(api.ErrJoint, 0)},
		{"the first end is as many as the points", 3, [][2]int{{0, 1}, {3, 1}}, fault(api.ErrJoint, 1)},
		{"the second end is", 3, [][2]int{{0, 1}, {1, 2}, {2, 3}}, fault(api.ErrJoint, 2)},
		{"the first end is below 0", 3, [][2]int{{-1, 1}}, fault(api.ErrJoint, 0)},
		{"the second end is below 0", 3, [][2]int{{0, 1}, {1, -1}}, fault(api.ErrJoint, 1)},
		{"far off", 10, [][2]int{{0, 1}, {0, 2}, {math.MinInt, math.MaxInt}}, fault(api.ErrJoint, 2)},
		{"a point and itself", 3, [][2]int{{0, 1}, {1, 2}, {2, 2}}, fault(api.ErrJoint, 2)},
		{"twice", 3, [][2]int{{0, 1}, {1, 2}, {0, 1}}, fault(api.ErrTwice, 2)},
		{"twice, the other way round", 3, [][2]int{{0, 1}, {1, 2}, {2, 1}}, fault(api.ErrTwice, 2)},
		{"one from more to less, then from less to more", 3, [][2]int{{2, 0}, {0, 2}}, fault(api.ErrTwice, 1)},
		{"three times", 3, [][2]int{{2, 0}, {2, 0}, {2, 0}}, fault(api.ErrTwice, 1)},
		{"no point, twice", 3, [][2]int{{0, 3}, {0, 3}}, fault(api.ErrJoint, 0)},
		{"itself, twice", 3, [][2]int{{0, 1}, {2, 2}, {2, 2}}, fault(api.ErrJoint, 1)},
		{"twice ahead of no point", 3, [][2]int{{0, 1}, {1, 0}, {0, 7}}, fault(api.ErrTwice, 1)},
		{"no point ahead of twice", 3, [][2]int{{0, 1}, {0, 7}, {1, 0}}, fault(api.ErrJoint, 1)},
	} {
		everywhere(t, c.what, c.n, c.edges, c.want)
	}
}

// The last of as many edges as may be is still looked at.
func TestFaultOfTheLastEdge(t *testing.T) {
	last := api.MaxEdges - 1
	for _, c := range []struct {
		edge [2]int
		want api.Errno
	}{
		{[2]int{1, 0}, api.ErrTwice},
		{[2]int{8, 7}, api.ErrTwice},
		{[2]int{9, 9}, api.ErrJoint},
		{[2]int{9, 10}, api.ErrJoint},
	} {
		l := allJoined(api.MaxPoints)
		l[last] = c.edge
		everywhere(t, "the last edge", api.MaxPoints, l, fault(c.want, last))
	}
}
