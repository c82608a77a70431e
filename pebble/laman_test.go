package pebble_test

import (
	"math/rand"
	"slices"
	"strconv"
	"strings"
	"testing"

	"rafter/api"
	"rafter/still"
)

// What P4.3 says comes of it.

func TestOrderDoesNotMatter(t *testing.T) {
	r := rand.New(rand.NewSource(43))
	for range 300 {
		n := 1 + r.Intn(api.MaxPoints)
		l := someEdges(r, n, r.Intn(2*n+6))
		free, stiff := strings.Count(freeOf(t, n, l), "+"), rigid(t, n, l)
		for range 5 {
			other := shuffled(r, l)
			if c := strings.Count(freeOf(t, n, other), "+"); c != free {
				t.Fatalf("%d %v: %d are free; as %v: %d", n, l, free, other, c)
			}
			if rigid(t, n, other) != stiff {
				t.Fatalf("%d %v: rigid: %v; as %v it isn't so", n, l, stiff, other)
			}
		}
	}
}

// An edge is too much by itself, in whatever order they are told: Over goes along with the edges.
func TestOverGoesAlong(t *testing.T) {
	r := rand.New(rand.NewSource(44))
	for range 100 {
		n := 4 + r.Intn(api.MaxPoints-3)
		l := someEdges(r, n, n+r.Intn(n+4))
		over, back := overOf(t, n, l), slices.Clone(l)
		slices.Reverse(back)
		turned := []byte(overOf(t, n, back))
		slices.Reverse(turned)
		if string(turned) != over {
			t.Fatalf("%d %v: %s; backwards: %s", n, l, over, turned)
		}
	}
}

// joinTwo puts point n to the graph and joins it to two others.
func joinTwo(r *rand.Rand, n int, l [][2]int) [][2]int {
	p := r.Perm(n)
	return append(slices.Clip(l), [2]int{p[0], n}, [2]int{n, p[1]})
}

// splitEdge puts point n to the graph in the place of an edge, and joins it to its ends and a third one.
func splitEdge(r *rand.Rand, n int, l [][2]int) [][2]int {
	i := r.Intn(len(l))
	e := l[i]
	third := r.Intn(n)
	for third == e[0] || third == e[1] {
		third = r.Intn(n)
	}
	return append(slices.Delete(slices.Clone(l), i, i+1), [2]int{n, e[0]}, [2]int{e[1], n}, [2]int{n, third})
}

func TestHenneberg(t *testing.T) {
	r := rand.New(rand.NewSource(41))
	for range 400 {
		l := [][2]int{{0, 1}}
		for n := 2; ; n++ {
			if s := freeOf(t, n, l); s != strings.Repeat("+", 2*n-3) || !rigid(t, n, l) {
				t.Fatalf("%d %v: %s", n, l, s)
			}
			if s := overOf(t, n, l); s != strings.Repeat("-", 2*n-3) {
				t.Fatalf("%d %v: Over: %s", n, l, s)
			}
			if without := slices.Delete(slices.Clone(l), 0, 1); rigid(t, n, without) {
				t.Fatalf("%d %v: rigid with one edge too few", n, without)
			}
			if n == api.MaxPoints {
				break
			}
			if n > 2 && r.Intn(3) > 0 {
				l = splitEdge(r, n, l)
			} else {
				l = joinTwo(r, n, l)
			}
			if r.Intn(2) == 0 {
				l = shuffled(r, l)
			}
		}
	}
}

// laid has the edges as bars of a frame without holds, its joints at random places, none of them at one place, from 0 to side.
func laid(r *rand.Rand, n, side int, edges [][2]int) api.Frame {
	var f api.Frame
	for len(f.Joints) < n {
		at := api.Spot{X: api.Q(strconv.Itoa(r.Intn(side + 1))), Y: api.Q(strconv.Itoa(r.Intn(side + 1)))}
		if !slices.Contains(f.Joints, at) {
			f.Joints = append(f.Joints, at)
		}
	}
	for _, e := range edges {
		f.Bars = append(f.Bars, api.Bar{A: e[0], B: e[1], C: "1", E: "0", Least: "0", Most: "0"})
	}
	return f
}

// Where joints lie on few places, frames have stresses that their graphs don't ask for; but a frame without any has all bars free.
func TestFramesWithoutStress(t *testing.T) {
	r := rand.New(rand.NewSource(42))
	none, some := 0, 0
	for range 600 {
		n := 2 + r.Intn(api.MaxJoints-1)
		l := someEdges(r, n, min(1+r.Intn(2*n), api.MaxBars))
		rank, stresses, _, g := still.Counts(laid(r, n, 4, l))
		if g.Code != api.OK {
			t.Fatalf("%d %v: %v", n, l, g)
		}
		s := freeOf(t, n, l)
		free := strings.Count(s, "+")
		if rank > free {
			t.Fatalf("%d %v: %s, but %d bars don't hang together", n, l, s, rank)
		}
		if stresses == 0 && free != len(l) {
			t.Fatalf("%d %v: no stress, but %s", n, l, s)
		}
		if stresses == 0 {
			none++
		} else if free == len(l) {
			some++
		}
	}
	if none < 100 || some < 10 {
		t.Errorf("%d frames without stress, %d that have one by their places alone: too few to tell", none, some)
	}
}

// Where joints lie anywhere, a frame has just the stresses that its graph asks for (Laman).
func TestFramesAnywhere(t *testing.T) {
	r := rand.New(rand.NewSource(45))
	for range 150 {
		n := 2 + r.Intn(api.MaxJoints-1)
		l := someEdges(r, n, min(1+r.Intn(2*n+4), api.MaxBars))
		rank, _, motions, g := still.Counts(laid(r, n, 1000000, l))
		if g.Code != api.OK {
			t.Fatalf("%d %v: %v", n, l, g)
		}
		if free := strings.Count(freeOf(t, n, l), "+"); rank != free {
			t.Fatalf("%d %v: %d are free, but %d bars don't hang together", n, l, free, rank)
		}
		if rigid(t, n, l) != (motions == 3) {
			t.Fatalf("%d %v: %d motions", n, l, motions)
		}
	}
}

// Frames of no stress that are told by hand: a triangle, and a square with a diagonal; with both diagonals it has one.
func TestFramesByHand(t *testing.T) {
	places := []api.Spot{{X: "0", Y: "0"}, {X: "1", Y: "0"}, {X: "1", Y: "1"}, {X: "0", Y: "1"}}
	for _, c := range []struct {
		edges    string
		stresses int
		free     string
	}{
		{"0-1 1-2 2-0", 0, "+++"},
		{square + " 0-2", 0, "+++++"},
		{square + " 0-2 1-3", 1, "+++++-"},
	} {
		f := api.Frame{Joints: places}
		for _, e := range drawn(c.edges) {
			f.Bars = append(f.Bars, api.Bar{A: e[0], B: e[1], C: "1"})
		}
		_, stresses, _, g := still.Counts(f)
		if s := freeOf(t, 4, drawn(c.edges)); stresses != c.stresses || g.Code != api.OK || s != c.free {
			t.Errorf("%s: %d %v %s, want %d %s", c.edges, stresses, g, s, c.stresses, c.free)
		}
	}
}
