package beam_test

import (
	"math/big"
	"math/rand"
	"slices"
	"testing"

	"rafter/api"
	"rafter/beam"
)

func solved(t *testing.T, b api.Beam, puts []api.Put) api.Bent {
	t.Helper()
	b.Puts = puts
	x, g := beam.Solve(b)
	if g != (api.Fault{}) {
		t.Fatalf("%v: %v", b, g)
	}
	return x
}

// work is each P of puts times the rise there (of a Twist: the slope), added.
func work(t *testing.T, puts []api.Put, rise []api.Piece) *big.Rat {
	t.Helper()
	sum := new(big.Rat)
	for _, p := range puts {
		at := rat(t, p.At)
		here := pieceAt(t, rise, at)
		if p.Kind == api.Twist {
			here = slopeOf(here)
		}
		sum = add(sum, times(rat(t, p.P), value(here, at)))
	}
	return sum
}

func TestBetti(t *testing.T) {
	c := chance{Rand: rand.New(rand.NewSource(1)), idle: true, spots: true}
	something := 0
	for i := range 400 {
		c.digits = []int{0, 0, 1, 12}[i%4]
		b := c.held(t, []int{2, 4, api.MaxProps}[i%3])
		first, second := c.puts(t, b.Long, 4), c.puts(t, b.Long, 4)
		a, z := work(t, first, solved(t, b, second).Rise), work(t, second, solved(t, b, first).Rise)
		if a.Cmp(z) != 0 {
			t.Fatalf("%v: %v works %v, %v works %v", b, first, a, second, z)
		}
		something += a.Sign() * a.Sign()
	}
	if something < 100 {
		t.Errorf("work is done by %d alone", something)
	}
}

// A load that does work goes its way: so work is never below 0.
func TestOwnWork(t *testing.T) {
	c := chance{Rand: rand.New(rand.NewSource(2)), idle: true, spots: true}
	for range 200 {
		b := c.held(t, 4)
		puts := c.puts(t, b.Long, 4)
		if w := work(t, puts, solved(t, b, puts).Rise); w.Sign() < 0 {
			t.Fatalf("%v: %v works %v", b, puts, w)
		}
	}
}

// What two lists of puts do together is what each does, added: the pushes, the twists, and the rise everywhere.
func TestAdded(t *testing.T) {
	c := chance{Rand: rand.New(rand.NewSource(3)), idle: true}
	for i := range 200 {
		c.digits = []int{0, 0, 1, 6}[i%4]
		b := c.held(t, api.MaxProps)
		first, second := c.puts(t, b.Long, 4), c.puts(t, b.Long, 4)
		x, y, both := solved(t, b, first), solved(t, b, second), solved(t, b, slices.Concat(first, second))
		for n := range b.Props {
			if add(rat(t, x.Pushes[n]), rat(t, y.Pushes[n])).Cmp(rat(t, both.Pushes[n])) != 0 || add(rat(t, x.Twists[n]), rat(t, y.Twists[n])).Cmp(rat(t, both.Twists[n])) != 0 {
				t.Fatalf("%v: %v and %v: prop %d", b, first, second, n)
			}
		}
		for _, p := range both.Rise {
			for _, at := range between(t, p) {
				sum := add(value(pieceAt(t, x.Rise, at), at), value(pieceAt(t, y.Rise, at), at))
				if sum.Cmp(value(polynomial(t, p), at)) != 0 {
					t.Fatalf("%v: %v and %v: at %v", b, first, second, at)
				}
			}
		}
	}
}
