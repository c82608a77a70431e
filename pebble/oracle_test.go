package pebble_test

import (
	"math/bits"
	"math/rand"
	"slices"
	"strings"
	"testing"

	"rafter/api"
)

// Answers are held against the chapter's words here: every set of points is asked, one by one.

// hangTogether tells whether of some two or more points more than twice as many less 3 of the edges join two of them.
func hangTogether(n int, edges [][2]int) bool {
	for set := range uint(1) << n {
		k := bits.OnesCount(set)
		if k < 2 {
			continue
		}
		inside := 0
		for _, e := range edges {
			inside += int(set >> e[0] & (set >> e[1]) & 1)
		}
		if inside > 2*k-3 {
			return true
		}
	}
	return false
}

func freeByWords(n int, edges [][2]int) string {
	var free [][2]int
	var l []bool
	for _, e := range edges {
		ok := !hangTogether(n, append(slices.Clip(free), e))
		if ok {
			free = append(free, e)
		}
		l = append(l, ok)
	}
	return told(l)
}

func countByWords(n int, edges [][2]int) int { return strings.Count(freeByWords(n, edges), "+") }

func overByWords(n int, edges [][2]int) string {
	all := countByWords(n, edges)
	var l []bool
	for i := range edges {
		l = append(l, countByWords(n, slices.Delete(slices.Clone(edges), i, i+1)) == all)
	}
	return told(l)
}

// byWords holds all answers against the chapter's words.
func byWords(t *testing.T, n int, edges [][2]int) {
	t.Helper()
	want := freeByWords(n, edges)
	if s := freeOf(t, n, edges); s != want {
		t.Fatalf("Free of %d %v: %s, want %s", n, edges, s, want)
	}
	need := 2*n - 3
	if n == 1 {
		need = 0
	}
	if r := rigid(t, n, edges); r != (strings.Count(want, "+") == need) {
		t.Fatalf("Rigid of %d %v: %v", n, edges, r)
	}
	want = overByWords(n, edges)
	if s := overOf(t, n, edges); s != want {
		t.Fatalf("Over of %d %v: %s, want %s", n, edges, s, want)
	}
}

// Every graph of five points at most.
func TestEveryGraph(t *testing.T) {
	for n := 1; n <= 5; n++ {
		full := allJoined(n)
		for pick := range 1 << len(full) {
			var l [][2]int
			for i, e := range full {
				if pick>>i&1 == 1 {
					l = append(l, e)
				}
			}
			byWords(t, n, l)
		}
	}
}

// shuffled has the edges in another order, some of them the other way round.
func shuffled(r *rand.Rand, edges [][2]int) [][2]int {
	l := slices.Clone(edges)
	r.Shuffle(len(l), func(i, j int) { l[i], l[j] = l[j], l[i] })
	for i, e := range l {
		if r.Intn(2) == 0 {
			l[i] = [2]int{e[1], e[0]}
		}
	}
	return l
}

// someEdges are count of all edges of n points, or all if there are fewer.
func someEdges(r *rand.Rand, n, count int) [][2]int {
	l := shuffled(r, allJoined(n))
	return l[:min(count, len(l))]
}

func TestManyGraphs(t *testing.T) {
	r := rand.New(rand.NewSource(4))
	for range 150 {
		n := 1 + r.Intn(8)
		// Around as many edges as a stiff graph has, most goes wrong.
		byWords(t, n, someEdges(r, n, r.Intn(2*n+3)))
	}
	for range 4 {
		byWords(t, api.MaxPoints, someEdges(r, api.MaxPoints, 14+r.Intn(8)))
	}
	n := api.MaxPoints
	for range 40 {
		l := someEdges(r, n, r.Intn(api.MaxEdges+1))
		if s, want := freeOf(t, n, l), freeByWords(n, l); s != want {
			t.Fatalf("Free of %v: %s, want %s", l, s, want)
		}
	}
}
