package swing_test

import (
	"math/big"
	"math/rand"
	"slices"
	"strings"
	"testing"

	"rafter/api"
	"rafter/swing"
)

func TestLongNumbers(t *testing.T) {
	c := chance{Rand: rand.New(rand.NewSource(10)), digits: 30}
	moves, holds := 0, 0
	for range 40 {
		f := c.frame(2+c.Intn(2), 2+c.Intn(5), 3)
		masses := c.masses(f)
		heldAgainst(t, f, masses, c.somewhere(t, f, masses))
		if lowest(t, f, masses, api.MaxDigits).Sign() == 0 {
			moves++
		} else {
			holds++
		}
		quotient(t, f, masses, c.motion(f))
	}
	if moves < 5 || holds < 5 {
		t.Errorf("%d, %d", moves, holds)
	}
}

// As many joints and bars as may be, with numbers that are long.
func TestMostLong(t *testing.T) {
	c := chance{Rand: rand.New(rand.NewSource(11)), digits: 12}
	f := most()
	for i := range f.Joints {
		f.Joints[i] = spot(c.q(), c.q())
	}
	for i := range f.Bars {
		f.Bars[i].C = c.above()
	}
	f.Holds = f.Holds[:3]
	masses := c.masses(f)
	q, g := swing.Lowest(f, masses, api.MaxDigits)
	if least := rat(t, q); g != (api.Fault{}) || least.Sign() <= 0 {
		t.Fatalf("%s %v", q, g)
	}
	next := new(big.Rat).Add(rat(t, q), part(api.MaxDigits))
	if a, b := counted(t, f, masses, rat(t, q)), counted(t, f, masses, next); a != 0 || b == 0 {
		t.Errorf("%s: %d below, %d below the next", q, a, b)
	}
	all := new(big.Rat)
	for i := range f.Joints { // together the paces squared are what all ways are by themselves, added
		for way := api.Along; way <= api.Up; way++ {
			m := make([]api.Spot, len(f.Joints))
			if m[i].X = "1"; way == api.Up {
				m[i] = spot("0", "1")
			}
			if !isHeld(f, i, way) {
				all.Add(all, quotient(t, f, masses, m))
			}
		}
	}
	if n := counted(t, f, masses, all); n != 2*api.MaxJoints-3 {
		t.Errorf("%d are below all of them, added", n)
	}
}

// Numbers that are as long as all but one digit of one another are told apart.
func TestAllButTheLastDigit(t *testing.T) {
	long := strings.Repeat("3", 2000)
	great, greater := api.Q(long+"3"), api.Q(long+"4")
	f := drawn(rights, "0-1*"+string(great)+" 0-2*"+string(greater), feet)
	for _, c := range []struct {
		mass, w api.Q
		want    int
	}{
		{"1", great, 0}, {"1", greater, 1}, {"1", greater + "/1", 1}, {"1", api.Q(long + "5"), 2}, {"1", api.Q(long + "2"), 0},
		{great, "1", 0}, {great, greater + "/" + great, 1}, {great, api.Q(long+"5") + "/" + great, 2},
		{greater, great + "/" + greater, 0}, {greater, "1", 1}, {greater, "1" + api.Q(strings.Repeat("0", 3000)) + "1/1" + api.Q(strings.Repeat("0", 3001)), 2},
	} {
		if n, g := swing.Below(f, []api.Q{c.mass, "1", "1"}, c.w); n != c.want || g != (api.Fault{}) {
			t.Errorf("%d %v, want %d", n, g, c.want)
		}
	}
	for _, c := range []struct {
		mass   api.Q
		digits int
		want   api.Q
	}{
		{"1", 0, great}, {"1", api.MaxDigits, great}, {great, 0, "1"}, {great, api.MaxDigits, "1"}, {greater, 0, "0"},
		{greater, api.MaxDigits, "1152921504606846975/1152921504606846976"}, {"1" + api.Q(strings.Repeat("0", 4000)), api.MaxDigits, "0"},
	} {
		if q, g := swing.Lowest(f, []api.Q{c.mass, "1", "1"}, c.digits); q != c.want || g != (api.Fault{}) {
			t.Errorf("%d digits: %d bytes %v, want %d", c.digits, len(q), g, len(c.want))
		}
	}
	if q, g := swing.Quotient(f, []api.Q{great, "1", "1"}, []api.Spot{spot(greater, "0"), {}, {}}); q != "1" || g != (api.Fault{}) {
		t.Errorf("%d bytes %v", len(q), g)
	}
	if q, g := swing.Quotient(f, ones(3), []api.Spot{spot("1/"+great, "1/"+great), {}, {}}); q != told(new(big.Rat).Quo(new(big.Rat).Add(read(great), read(greater)), big.NewRat(2, 1))) || g != (api.Fault{}) {
		t.Errorf("%d bytes %v", len(q), g)
	}
}

// A mass below 0 by very little, and a motion by very little of what is held, are seen.
func TestVeryLittle(t *testing.T) {
	f := drawn(rights, rightly, feet)
	little := "1/1" + api.Q(strings.Repeat("0", 3000))
	masses := ones(3)
	masses[1] = "-" + little
	refused(t, "a mass below 0 by very little", f, masses, fault(api.ErrValue, 7))
	masses[1] = little
	if n, g := swing.Below(f, masses, "5/2"); n != 1 || g != (api.Fault{}) {
		t.Errorf("%d %v", n, g)
	}
	m := slices.Repeat(spots("0,0"), 3)
	m[2].X = "-" + little
	notMoved(t, "a motion by very little", f, masses, m, fault(api.ErrValue, 4))
	m[2].X, m[0].Y = "0", little
	if q, g := swing.Quotient(f, masses, m); q != "3" || g != (api.Fault{}) {
		t.Errorf("%q %v", q, g)
	}
	for w, want := range map[api.Q]int{"-" + little: 0, "0": 0, little: 3} {
		if n, g := swing.Below(drawn("0,0 1,0", "0-1", ""), ones(2), w); n != want || g != (api.Fault{}) {
			t.Errorf("%d %v, want %d", n, g, want)
		}
	}
}

// Whatever is handed in, each call answers: a fault and nothing else, or no fault.
func TestWildInputs(t *testing.T) {
	c := chance{Rand: rand.New(rand.NewSource(12))}
	words := numbers("0 1 -1 1/2 1 7/7 2 5/3 1 x 1/0 - / -/ 00 3/-1 1e9 \u0663 \xff")
	q := func() api.Q { return words[c.Intn(len(words))] }
	at := func() int { return c.Intn(5) - 1 }
	right := 0
	for range 20000 {
		var f api.Frame
		for range c.Intn(4) {
			f.Joints = append(f.Joints, spot(q(), q()))
		}
		for range c.Intn(3) {
			f.Bars = append(f.Bars, api.Bar{A: at(), B: at(), C: q(), E: q(), Least: q(), Most: q()})
		}
		for range c.Intn(3) {
			f.Holds = append(f.Holds, api.Hold{Joint: at(), Way: at(), By: q()})
		}
		var masses []api.Q
		var motion []api.Spot
		for range len(f.Joints) + c.Intn(6)/5 {
			masses, motion = append(masses, q()), append(motion, spot(q(), q()))
		}
		n, g1 := swing.Below(f, masses, q())
		low, g2 := swing.Lowest(f, masses, 5*c.Intn(14)-1)
		quo, g3 := swing.Quotient(f, masses, motion)
		if g1.Code != api.OK && n != 0 || (g2.Code == api.OK) != (low != "") || (g3.Code == api.OK) != (quo != "") {
			t.Fatalf("%v %v %v: %d %v, %q %v, %q %v", f, masses, motion, n, g1, low, g2, quo, g3)
		}
		if g1.Code == api.OK {
			right++
			heldAgainst(t, f, masses, rats(numbers("0 1/2 1 2")))
		} else if g2 != g1 || g3 != g1 {
			t.Fatalf("%v %v %v: %v, %v, %v", f, masses, motion, g1, g2, g3)
		}
	}
	if right < 100 {
		t.Errorf("only %d are right", right)
	}
}
