package beam_test

import (
	"fmt"
	"math/big"
	"math/rand"
	"slices"
	"testing"

	"rafter/api"
	"rafter/beam"
)

// Answers are held against the chapter's words here, by the library's fractions.

func rat(t *testing.T, q api.Q) *big.Rat {
	t.Helper()
	x, ok := new(big.Rat).SetString(string(q))
	if !ok || x.RatString() != string(q) {
		t.Fatalf("%q isn't in lowest terms", q)
	}
	return x
}

func add(a, b *big.Rat) *big.Rat { return new(big.Rat).Add(a, b) }

func less(a, b *big.Rat) *big.Rat { return new(big.Rat).Sub(a, b) }

func times(a, b *big.Rat) *big.Rat { return new(big.Rat).Mul(a, b) }

func half(a *big.Rat) *big.Rat { return times(a, big.NewRat(1, 2)) }

func told(x *big.Rat) api.Q { return api.Q(x.RatString()) }

// polynomial is that of a piece.
func polynomial(t *testing.T, p api.Piece) []*big.Rat {
	t.Helper()
	if n := len(p.P); n > 0 && p.P[n-1] == "0" {
		t.Fatalf("%v ends in a nought", p)
	}
	var l []*big.Rat
	for _, q := range p.P {
		l = append(l, rat(t, q))
	}
	return l
}

func value(p []*big.Rat, x *big.Rat) *big.Rat {
	sum := new(big.Rat)
	for _, c := range slices.Backward(p) {
		sum = add(times(sum, x), c)
	}
	return sum
}

func slopeOf(p []*big.Rat) []*big.Rat {
	var l []*big.Rat
	for k := 1; k < len(p); k++ {
		l = append(l, times(p[k], big.NewRat(int64(k), 1)))
	}
	return l
}

// acting is all that pushes and twists a beam, its props, too.
func acting(b api.Beam, x api.Bent) []api.Put {
	l := slices.Clone(b.Puts)
	for i, p := range b.Props {
		l = append(l, api.Put{Kind: api.Point, At: p.At, P: x.Pushes[i]}, api.Put{Kind: api.Twist, At: p.At, P: x.Twists[i]})
	}
	return l
}

// leftOf is the shear and the bending left of x, by the chapter's words.
func leftOf(t *testing.T, l []api.Put, x *big.Rat) (shear, bending *big.Rat) {
	t.Helper()
	shear, bending = new(big.Rat), new(big.Rat)
	for _, p := range l {
		at, by := rat(t, p.At), rat(t, p.P)
		if at.Cmp(x) >= 0 {
			continue
		}
		switch p.Kind {
		case api.Twist:
			bending = less(bending, by)
			continue
		case api.Even:
			end := rat(t, p.To)
			if end.Cmp(x) > 0 {
				end = x
			}
			by = times(by, less(end, at))
			at = half(add(at, end))
		}
		shear = add(shear, by)
		bending = add(bending, times(by, less(x, at)))
	}
	return shear, bending
}

// whole is the sum of all pushes, and that of the twists and each push times its place.
func whole(t *testing.T, l []api.Put) (pushes, turns *big.Rat) {
	t.Helper()
	pushes, turns = new(big.Rat), new(big.Rat)
	for _, p := range l {
		at, by := rat(t, p.At), rat(t, p.P)
		switch p.Kind {
		case api.Twist:
			turns = add(turns, by)
			continue
		case api.Even:
			to := rat(t, p.To)
			by = times(by, less(to, at))
			at = half(add(at, to))
		}
		pushes = add(pushes, by)
		turns = add(turns, times(by, at))
	}
	return pushes, turns
}

// wanted is what the Code must be: two props, or a fast one, hold a beam.
func wanted(t *testing.T, b api.Beam) api.Errno {
	t.Helper()
	if len(b.Props) > 1 || len(b.Props) == 1 && b.Props[0].Fast {
		return api.OK
	}
	pushes, turns := whole(t, b.Puts)
	fits := pushes.Sign() == 0 && turns.Sign() == 0
	if len(b.Props) == 1 {
		fits = turns.Cmp(times(pushes, rat(t, b.Props[0].At))) == 0
	}
	if fits {
		return api.ErrFree
	}
	return api.ErrNone
}

// inOrder is 0, Long and the places, in order, each once.
func inOrder(t *testing.T, long api.Q, places ...api.Q) []api.Q {
	t.Helper()
	l := append([]api.Q{"0", long}, places...)
	slices.SortFunc(l, func(a, b api.Q) int { return rat(t, a).Cmp(rat(t, b)) })
	return slices.Compact(l)
}

// atPlaces fails unless the pieces begin and end at these places.
func atPlaces(t *testing.T, l []api.Piece, places []api.Q) {
	t.Helper()
	if len(l) != len(places)-1 {
		t.Fatalf("%v doesn't end at %v", l, places)
	}
	for i, p := range l {
		if p.From != places[i] || p.To != places[i+1] {
			t.Fatalf("%v doesn't end at %v", l, places)
		}
	}
}

// between is some places between those where a piece begins and ends: more than its polynomial can be wrong at by chance.
func between(t *testing.T, p api.Piece) []*big.Rat {
	t.Helper()
	from, to := rat(t, p.From), rat(t, p.To)
	var l []*big.Rat
	for k := range int64(5) {
		l = append(l, add(from, times(less(to, from), big.NewRat(k+1, 7))))
	}
	return l
}

// isSmooth: neither the rise nor its slope leaps.
func isSmooth(t *testing.T, rise []api.Piece) {
	t.Helper()
	for i := 1; i < len(rise); i++ {
		at, a, b := rat(t, rise[i].From), polynomial(t, rise[i-1]), polynomial(t, rise[i])
		if value(a, at).Cmp(value(b, at)) != 0 || value(slopeOf(a), at).Cmp(value(slopeOf(b), at)) != 0 {
			t.Fatalf("%v leaps at %v", rise, at)
		}
	}
}

// pieceAt is the polynomial of the first piece that has the place x.
func pieceAt(t *testing.T, l []api.Piece, x *big.Rat) []*big.Rat {
	t.Helper()
	for _, p := range l {
		if rat(t, p.From).Cmp(x) <= 0 && rat(t, p.To).Cmp(x) >= 0 {
			return polynomial(t, p)
		}
	}
	t.Fatalf("%v has no %v", l, x)
	return nil
}

func isHeld(t *testing.T, b api.Beam, x api.Bent) {
	t.Helper()
	for i, p := range b.Props {
		at := rat(t, p.At)
		here := pieceAt(t, x.Rise, at)
		if value(here, at).Cmp(rat(t, p.By)) != 0 {
			t.Fatalf("%v: %v: prop %d isn't at its By", b, x, i)
		}
		if p.Fast && value(slopeOf(here), at).Sign() != 0 {
			t.Fatalf("%v: %v: turned at prop %d", b, x, i)
		}
		if !p.Fast && x.Twists[i] != "0" {
			t.Fatalf("%v: %v: twisted at prop %d", b, x, i)
		}
	}
}

// heldAgainst holds what Solve tells against the chapter, and answers the Code.
func heldAgainst(t *testing.T, b api.Beam) api.Errno {
	t.Helper()
	x, g := beam.Solve(b)
	if want := wanted(t, b); g != fault(want, 0) {
		t.Fatalf("%v: %v, want %v", b, g, want)
	}
	if g.Code != api.OK {
		if x.Rise != nil || x.Pushes != nil || x.Twists != nil {
			t.Fatalf("%v beside %v", x, g)
		}
		return g.Code
	}
	if len(x.Pushes) != len(b.Props) || len(x.Twists) != len(b.Props) {
		t.Fatalf("%v: %v", b, x)
	}
	var places []api.Q
	for _, p := range b.Props {
		places = append(places, p.At)
	}
	for _, p := range b.Puts {
		places = append(places, p.At)
		if p.Kind == api.Even {
			places = append(places, p.To)
		}
	}
	atPlaces(t, x.Rise, inOrder(t, b.Long, places...))
	l := acting(b, x)
	if pushes, turns := whole(t, l); pushes.Sign() != 0 || turns.Sign() != 0 {
		t.Fatalf("%v: %v: pushes %v, turns %v", b, x, pushes, turns)
	}
	for _, p := range x.Rise {
		for _, at := range between(t, p) {
			_, bending := leftOf(t, l, at)
			if bent := value(slopeOf(slopeOf(polynomial(t, p))), at); times(bent, rat(t, b.Stiff)).Cmp(bending) != 0 {
				t.Fatalf("%v: %v: at %v: %v, bending %v", b, x, at, bent, bending)
			}
		}
	}
	isSmooth(t, x.Rise)
	isHeld(t, b, x)
	return g.Code
}

// chance draws fractions and beams.
type chance struct {
	*rand.Rand
	digits int  // of what stands above and below the bar, beside one; 0: places lie on a narrow grid
	idle   bool // By are all 0
	spots  bool // no even loads
}

func (c chance) number() string {
	s := fmt.Sprint(1 + c.Intn(9))
	for range c.digits {
		s += fmt.Sprint(c.Intn(10))
	}
	return s
}

func (c chance) positive() api.Q {
	x, _ := new(big.Rat).SetString(c.number() + "/" + c.number())
	return told(x)
}

// q is a fraction, now and then 0.
func (c chance) q() api.Q {
	if c.Intn(5) == 0 {
		return "0"
	}
	return []api.Q{"", "-"}[c.Intn(2)] + c.positive()
}

// place is one of a beam, now and then one of its ends.
func (c chance) place(t *testing.T, long api.Q) api.Q {
	t.Helper()
	part := big.NewRat(int64(c.Intn(7)), 6)
	if c.digits > 0 && c.Intn(5) > 0 {
		down, up := rat(t, c.positive()), rat(t, c.positive())
		part = new(big.Rat).Quo(down, add(down, up))
	}
	return told(times(part, rat(t, long)))
}

func (c chance) put(t *testing.T, long api.Q) api.Put {
	t.Helper()
	p := api.Put{Kind: api.Point + c.Intn(3), At: c.place(t, long), P: c.q()}
	if c.spots && p.Kind == api.Even {
		p.Kind = api.Twist
	}
	for p.Kind == api.Even && p.To == "" {
		switch to := c.place(t, long); rat(t, to).Cmp(rat(t, p.At)) {
		case 1:
			p.To = to
		case -1:
			p.At, p.To = to, p.At
		}
	}
	return p
}

func (c chance) puts(t *testing.T, long api.Q, most int) []api.Put {
	t.Helper()
	var l []api.Put
	for range c.Intn(most + 1) {
		l = append(l, c.put(t, long))
	}
	return l
}

func (c chance) beam(t *testing.T, props int) api.Beam {
	t.Helper()
	b := api.Beam{Long: c.positive(), Stiff: c.positive()}
	var places []api.Q
	for range c.Intn(props + 1) {
		places = append(places, c.place(t, b.Long))
	}
	slices.SortFunc(places, func(a, b api.Q) int { return rat(t, a).Cmp(rat(t, b)) })
	for _, at := range slices.Compact(places) {
		p := api.Prop{At: at, Fast: c.Intn(3) == 0, By: "0"}
		if !c.idle {
			p.By = c.q()
		}
		b.Props = append(b.Props, p)
	}
	return b
}

// held draws a beam that is held.
func (c chance) held(t *testing.T, props int) api.Beam {
	t.Helper()
	for {
		if b := c.beam(t, props); wanted(t, b) == api.OK {
			return b
		}
	}
}

func TestAgainstTheChapter(t *testing.T) {
	c := chance{Rand: rand.New(rand.NewSource(7))}
	seen := map[api.Errno]int{}
	for i := range 1500 {
		c.digits = []int{0, 0, 0, 2}[i%4]
		b := c.beam(t, []int{1, 3, api.MaxProps}[i%3])
		b.Puts = c.puts(t, b.Long, []int{2, api.MaxPuts}[i%2])
		seen[heldAgainst(t, b)]++
	}
	for e, least := range map[api.Errno]int{api.OK: 500, api.ErrNone: 100, api.ErrFree: 50} {
		if seen[e] < least {
			t.Errorf("only %d of %d", seen[e], e)
		}
	}
}

// What comes to nothing, drawn so: beams that aren't held lie anyhow under it.
func TestWhatComesToNothing(t *testing.T) {
	c := chance{Rand: rand.New(rand.NewSource(8))}
	for i := range 200 {
		c.digits = i % 3
		b := c.beam(t, 1)
		b.Puts = c.puts(t, b.Long, 4)
		pushes, turns := whole(t, b.Puts)
		at := c.place(t, b.Long)
		against := times(pushes, rat(t, at))
		b.Puts = append(b.Puts, api.Put{Kind: api.Point, At: at, P: told(pushes.Neg(pushes))}, api.Put{Kind: api.Twist, At: c.place(t, b.Long), P: told(less(against, turns))})
		if e := heldAgainst(t, b); e == api.ErrNone {
			t.Fatalf("%v: none", b)
		}
	}
}

func TestLongFractions(t *testing.T) {
	c := chance{Rand: rand.New(rand.NewSource(9))}
	for _, digits := range []int{20, 60} {
		c.digits = digits
		for range 3 {
			b := c.held(t, api.MaxProps)
			b.Puts = c.puts(t, b.Long, api.MaxPuts)
			if e := heldAgainst(t, b); e != api.OK {
				t.Errorf("%v: %v", b, e)
			}
		}
	}
}

// A beam that is fast at 0 alone, of great numbers: a push at its end lifts that by P Long^3 / 3 over Stiff.
func TestGreatNumbers(t *testing.T) {
	c := chance{Rand: rand.New(rand.NewSource(10)), digits: 400}
	long, stiff, push := c.positive(), c.positive(), c.positive()
	b := api.Beam{Long: long, Stiff: stiff, Props: []api.Prop{{At: "0", Fast: true}}, Puts: []api.Put{{Kind: api.Point, At: long, P: push}}}
	x, g := beam.Solve(b)
	by := new(big.Rat).Quo(rat(t, push), rat(t, stiff))
	second, third := half(times(by, rat(t, long))), times(by, big.NewRat(-1, 6))
	twist := times(rat(t, push), rat(t, long))
	want := api.Bent{Rise: []api.Piece{{From: "0", To: long, P: []api.Q{"0", "0", told(second), told(third)}}}, Pushes: []api.Q{"-" + push}, Twists: []api.Q{told(twist.Neg(twist))}}
	if toldBent(x) != toldBent(want) || g != (api.Fault{}) {
		t.Errorf("%s %v, want %s", toldBent(x), g, toldBent(want))
	}
}
