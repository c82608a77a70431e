package pebble_test

import (
	"strings"
	"testing"

	"rafter/api"
	"rafter/pebble"
)

// drawn makes edges of words: each as one point's digit, - and the other's.
func drawn(text string) [][2]int {
	var l [][2]int
	for _, w := range strings.Fields(text) {
		l = append(l, [2]int{int(w[0] - '0'), int(w[2] - '0')})
	}
	return l
}

// allJoined has every two of n points joined.
func allJoined(n int) [][2]int {
	var l [][2]int
	for b := range n {
		for a := range b {
			l = append(l, [2]int{a, b})
		}
	}
	return l
}

// told writes a list as + for true and - for false.
func told(l []bool) string {
	var s strings.Builder
	for _, x := range l {
		if x {
			s.WriteByte('+')
		} else {
			s.WriteByte('-')
		}
	}
	return s.String()
}

func freeOf(t *testing.T, n int, edges [][2]int) string {
	t.Helper()
	l, g := pebble.Free(n, edges)
	if g != (api.Fault{}) {
		t.Fatalf("Free of %d %v: %v", n, edges, g)
	}
	return told(l)
}

func rigid(t *testing.T, n int, edges [][2]int) bool {
	t.Helper()
	r, g := pebble.Rigid(n, edges)
	if g != (api.Fault{}) {
		t.Fatalf("Rigid of %d %v: %v", n, edges, g)
	}
	return r
}

func overOf(t *testing.T, n int, edges [][2]int) string {
	t.Helper()
	l, g := pebble.Over(n, edges)
	if g != (api.Fault{}) {
		t.Fatalf("Over of %d %v: %v", n, edges, g)
	}
	return told(l)
}

const (
	square   = "0-1 1-2 2-3 3-0"
	threes   = "0-3 0-4 0-5 1-3 1-4 1-5 2-3 2-4 2-5"
	prism    = "0-1 1-2 2-0 3-4 4-5 5-3 0-3 1-4 2-5"
	fourFull = "0-1 0-2 0-3 1-2 1-3 2-3"
)

func TestGraphs(t *testing.T) {
	for _, c := range []struct {
		what  string
		n     int
		edges string
		free  string
		rigid bool
		over  string
	}{
		{"one point", 1, "", "", true, ""},
		{"two points", 2, "", "", false, ""},
		{"two joined points", 2, "0-1", "+", true, "-"},
		{"ten points apart", 10, "", "", false, ""},
		{"a point beside two joined ones", 3, "2-1", "+", false, "-"},
		{"three in a row", 3, "0-1 1-2", "++", false, "--"},
		{"a triangle", 3, "0-1 1-2 2-0", "+++", true, "---"},
		{"a square", 4, square, "++++", false, "----"},
		{"with a diagonal", 4, square + " 2-0", "+++++", true, "-----"},
		{"with both", 4, square + " 0-2 1-3", "+++++-", true, "++++++"},
		{"two triangles with a point of both", 5, "0-1 1-2 2-0 2-3 3-4 4-2", "++++++", false, "------"},
		{"that are joined once more", 5, "0-1 1-2 2-0 2-3 3-4 4-2 0-4", "+++++++", true, "-------"},
		{"three and three", 6, threes, "+++++++++", true, "---------"},
		{"and one more", 6, threes + " 5-3", "+++++++++-", true, "++++++++++"},
		{"a prism", 6, prism, "+++++++++", true, "---------"},
		{"four with all edges, and a tail", 5, fourFull + " 3-4", "+++++-+", false, "++++++-"},
		{"the tail told first", 5, "4-3 " + fourFull, "++++++-", false, "-++++++"},
		// As many edges as two triangles and three between have, but too many among four points.
		{"as many as need be, but not where they need be", 6, fourFull + " 3-4 4-5 5-3", "+++++-+++", false, "++++++---"},
		{"two parts that are both too much", 8, fourFull + " 4-5 4-6 4-7 5-6 5-7 6-7", "+++++-+++++-", false, "++++++++++++"},
		{"a wheel", 5, "0-1 1-2 2-3 3-0 4-0 4-1 4-2 4-3", "+++++++-", true, "++++++++"},
		{"a ring of ten", 10, "0-1 1-2 2-3 3-4 4-5 5-6 6-7 7-8 8-9 9-0", "++++++++++", false, "----------"},
		{"the points of the edge aren't the first ones", 10, "9-8 8-7 7-9", "+++", false, "---"},
	} {
		l := drawn(c.edges)
		if g := pebble.Check(c.n, l); g != (api.Fault{}) {
			t.Errorf("%s: Check: %v", c.what, g)
		}
		if s := freeOf(t, c.n, l); s != c.free {
			t.Errorf("%s: Free: %s, want %s", c.what, s, c.free)
		}
		if r := rigid(t, c.n, l); r != c.rigid {
			t.Errorf("%s: Rigid: %v, want %v", c.what, r, c.rigid)
		}
		if s := overOf(t, c.n, l); s != c.over {
			t.Errorf("%s: Over: %s, want %s", c.what, s, c.over)
		}
	}
}

// The most points and edges are every two of ten points joined: 17 of 45 are free, and any one can be left out.
func TestMost(t *testing.T) {
	for n := 1; n <= api.MaxPoints; n++ {
		l := allJoined(n)
		free := strings.Count(freeOf(t, n, l), "+")
		if want := max(2*n-3, 0); free != want {
			t.Errorf("all of %d: %d are free, want %d", n, free, want)
		}
		if !rigid(t, n, l) {
			t.Errorf("all of %d: not rigid", n)
		}
		sign := "+"
		if n < 4 {
			sign = "-"
		}
		if s := overOf(t, n, l); s != strings.Repeat(sign, len(l)) {
			t.Errorf("all of %d: Over: %s", n, s)
		}
	}
	if n := len(allJoined(api.MaxPoints)); n != api.MaxEdges {
		t.Errorf("%d edges, want %d", n, api.MaxEdges)
	}
}

// An empty list is as none.
func TestEmptyLists(t *testing.T) {
	for n := 1; n <= api.MaxPoints; n++ {
		if s := freeOf(t, n, [][2]int{}) + overOf(t, n, [][2]int{}); s != "" {
			t.Errorf("%d points: %s", n, s)
		}
		if r := rigid(t, n, [][2]int{}); r != (n == 1) {
			t.Errorf("%d points: %v", n, r)
		}
	}
}
