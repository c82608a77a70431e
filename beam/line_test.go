package beam_test

import (
	"math/big"
	"math/rand"
	"slices"
	"testing"

	"rafter/api"
	"rafter/beam"
)

func TestLine(t *testing.T) {
	push := func(n int) api.Wish { return api.Wish{Kind: api.Push, N: n} }
	shear := func(at api.Q) api.Wish { return api.Wish{Kind: api.Shear, At: at} }
	bend := func(at api.Q) api.Wish { return api.Wish{Kind: api.Bend, At: at} }
	two, fast, three := drawn("2", "3", "0 2", ""), drawn("2", "3", "0!", ""), drawn("2", "3", "0 1 2", "")
	inner := drawn("4", "1", "1 3", "")
	for _, c := range []struct {
		what string
		b    api.Beam
		w    api.Wish
		want string
	}{
		{"a push", two, push(0), "0..2[-1 1/2]"},
		{"the other push", two, push(1), "0..2[0 -1/2]"},
		{"a shear", two, shear("1"), "0..1[0 1/2] 1..2[-1 1/2]"},
		{"a bending", two, bend("1"), "0..1[0 -1/2] 1..2[-1 1/2]"},
		{"a shear at 0, where nothing is left", two, shear("0"), "0..2[]"},
		{"a bending at 0, where nothing is left", two, bend("0"), "0..2[]"},
		{"a shear at Long, left of the prop", two, shear("2"), "0..2[0 1/2]"},
		{"a bending at Long", two, bend("2"), "0..2[]"},
		{"a push of the only one", fast, push(0), "0..2[-1]"},
		{"a shear of what is fast at the left", fast, shear("1"), "0..1[] 1..2[-1]"},
		{"a bending of what is fast at the left", fast, bend("1"), "0..1[] 1..2[-1 1]"},
		{"a bending of what is fast at the right", drawn("2", "1", "2!", ""), bend("1"), "0..1[1 -1] 1..2[]"},
		{"a shear of what is fast at the right", drawn("2", "1", "2!", ""), shear("2"), "0..2[1]"},
		{"a push inside", inner, push(0), "0..1[-3/2 1/2] 1..3[-3/2 1/2] 3..4[-3/2 1/2]"},
		{"a shear beyond the props", inner, shear("1/2"), "0..1/2[1] 1/2..1[] 1..3[] 3..4[]"},
		{"a shear at a prop, which isn't left of it", inner, shear("1"), "0..1[1] 1..3[] 3..4[]"},
		{"a shear at the right prop", inner, shear("3"), "0..1[-1/2 1/2] 1..3[-1/2 1/2] 3..4[-3/2 1/2]"},
		{"a bending at a prop", inner, bend("1"), "0..1[1 -1] 1..3[] 3..4[]"},
		{"a bending between", inner, bend("2"), "0..1[1/2 -1/2] 1..2[1/2 -1/2] 2..3[-3/2 1/2] 3..4[-3/2 1/2]"},
		{"a push of three", three, push(0), "0..1[-1 5/4 0 -1/4] 1..2[-3/2 11/4 -3/2 1/4]"},
		{"the middle push of three", three, push(1), "0..1[0 -3/2 0 1/2] 1..2[1 -9/2 3 -1/2]"},
		{"a bending at the middle one of three", three, bend("1"), "0..1[0 1/4 0 -1/4] 1..2[-3/2 11/4 -3/2 1/4]"},
		{"a push of what is fast at both ends", drawn("1", "1", "0! 1!", ""), push(1), "0..1[0 0 -3 2]"},
		{"a bending at the end of what is fast at both", drawn("1", "1", "0! 1!", ""), bend("1"), "0..1[0 0 1 -1]"},
	} {
		l, f := beam.Line(c.b, c.w)
		if got := toldPieces(l); got != c.want || f != (api.Fault{}) {
			t.Errorf("%s: %s %v, want %s", c.what, got, f, c.want)
		}
	}
}

// asked is what w asks, of a push of 1 at x, by what Solve says of it.
func asked(t *testing.T, b api.Beam, w api.Wish, x *big.Rat) *big.Rat {
	t.Helper()
	b.Props = slices.Clone(b.Props)
	for i := range b.Props {
		b.Props[i].By = "0"
	}
	b.Puts = []api.Put{{Kind: api.Point, At: told(x), P: "1"}}
	s, g := beam.Solve(b)
	if g != (api.Fault{}) {
		t.Fatalf("%v: %v", b, g)
	}
	if w.Kind == api.Push {
		return rat(t, s.Pushes[w.N])
	}
	shear, bending := leftOf(t, acting(b, s), rat(t, w.At))
	if w.Kind == api.Shear {
		return shear
	}
	return bending
}

// lineHeld holds what Line tells against what Solve says of many pushes, one by one.
func lineHeld(t *testing.T, b api.Beam, w api.Wish) {
	t.Helper()
	l, g := beam.Line(b, w)
	if g != (api.Fault{}) {
		t.Fatalf("%v %v: %v", b, w, g)
	}
	var places []api.Q
	for _, p := range b.Props {
		places = append(places, p.At)
	}
	if w.Kind != api.Push {
		places = append(places, w.At)
	}
	atPlaces(t, l, inOrder(t, b.Long, places...))
	for _, p := range l {
		// Where a piece begins it holds, too; where it ends a shear may leap.
		for _, x := range append(between(t, p), rat(t, p.From)) {
			if got, want := value(polynomial(t, p), x), asked(t, b, w, x); got.Cmp(want) != 0 {
				t.Fatalf("%v %v: %v is %v at %v, want %v", b, w, p, got, x, want)
			}
		}
	}
	last := l[len(l)-1]
	if end := rat(t, last.To); w.Kind != api.Shear && value(polynomial(t, last), end).Cmp(asked(t, b, w, end)) != 0 {
		t.Fatalf("%v %v: %v at its end", b, w, last)
	}
}

func TestLinesAgainstPushes(t *testing.T) {
	c := chance{Rand: rand.New(rand.NewSource(11))}
	for i := range 60 {
		c.digits = []int{0, 0, 2}[i%3]
		b := c.held(t, api.MaxProps)
		n := c.Intn(len(b.Props))
		for _, at := range []api.Q{c.place(t, b.Long), b.Props[n].At, "0", b.Long} {
			lineHeld(t, b, api.Wish{Kind: api.Shear, At: at})
			lineHeld(t, b, api.Wish{Kind: api.Bend, At: at})
		}
		lineHeld(t, b, api.Wish{Kind: api.Push, N: n})
	}
}

func TestLinesOfLongFractions(t *testing.T) {
	c := chance{Rand: rand.New(rand.NewSource(12)), digits: 40}
	b := c.held(t, 4)
	at := c.place(t, b.Long)
	for _, w := range []api.Wish{{Kind: api.Push, N: len(b.Props) - 1}, {Kind: api.Shear, At: at}, {Kind: api.Bend, At: at}} {
		lineHeld(t, b, w)
	}
}

// Neither puts, nor By, nor how stiff a beam is changes a line.
func TestWhatDoesNotCount(t *testing.T) {
	c := chance{Rand: rand.New(rand.NewSource(13))}
	for range 100 {
		b := c.held(t, api.MaxProps)
		other := b
		other.Stiff, other.Puts, other.Props = c.positive(), c.puts(t, b.Long, 8), nil
		for _, p := range b.Props {
			p.By = c.q()
			other.Props = append(other.Props, p)
		}
		for _, w := range []api.Wish{{Kind: api.Push}, {Kind: api.Shear, At: c.place(t, b.Long)}, {Kind: api.Bend, At: c.place(t, b.Long)}} {
			first, g := beam.Line(b, w)
			second, h := beam.Line(other, w)
			if toldPieces(first) != toldPieces(second) || g != (api.Fault{}) || h != (api.Fault{}) {
				t.Fatalf("%v: %v %v: %v, but %v", w, b, other, first, second)
			}
		}
	}
}
