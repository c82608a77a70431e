package swing

import (
	"fmt"
	"math/rand"
	"testing"

	"rafter/api"
	"rafter/num"
)

// However far from it greatest begins, it ends at the greatest; the nearer, the less it asks, and it never asks of what is below 0.
func TestGreatest(t *testing.T) {
	for want := range 70 {
		for about := range 140 {
			asked := 0
			got := greatest(func(n num.Frac) bool {
				asked++
				if n.Sign() < 0 {
					t.Fatalf("it asks of %s", n.Q())
				}
				return n.Compare(num.Whole(want)) <= 0
			}, num.Whole(about))
			if !got.Equal(num.Whole(want)) {
				t.Fatalf("from %d: %s, want %d", about, got.Q(), want)
			}
			if near := max(want-about, about-want); near == 0 && asked > 2 || near == 1 && asked > 4 || asked > 20 {
				t.Errorf("from %d to %d it asks %d times", about, want, asked)
			}
		}
	}
}

// The guess is off only where a multiple is very near to the least pace squared, as it is in none of these: else much would be asked of long numbers.
func TestGuess(t *testing.T) {
	r := rand.New(rand.NewSource(1))
	drawn := func() api.Q { return api.Q(fmt.Sprintf("%d/%d", 1+r.Intn(99), 1+r.Intn(99))) }
	for i := range 60 {
		var f api.Frame
		var masses []api.Q
		joints := 2 + i%5
		for range joints {
			f.Joints, masses = append(f.Joints, api.Spot{X: drawn(), Y: drawn()}), append(masses, drawn())
		}
		for k := range 2*joints + 1 {
			if b := (api.Bar{A: k % joints, B: r.Intn(joints), C: drawn()}); b.A != b.B {
				f.Bars = append(f.Bars, b)
			}
		}
		f.Holds = []api.Hold{{Joint: 0, Way: api.Along}, {Joint: 0, Way: api.Up}, {Joint: 1, Way: api.Up}}
		parts := twoTo(i)
		low, g := Lowest(f, masses, i)
		if g != (api.Fault{}) {
			t.Fatalf("%v %v: %v", f, masses, g)
		}
		if got, want := swingsOf(f, masses).guess(parts), num.Of(low).Times(parts); !got.Equal(want) {
			t.Errorf("%v %v: %d digits: %s, want %s", f, masses, i, got.Q(), want.Q())
		}
	}
}
