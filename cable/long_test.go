package cable_test

import (
	"math/big"
	"math/rand"
	"strings"
	"testing"

	"rafter/api"
	"rafter/cable"
)

func TestLongNumbers(t *testing.T) {
	c := chance{Rand: rand.New(rand.NewSource(10)), digits: 60}
	seen := map[api.Fault]int{}
	for range 60 {
		f := c.frame(2+c.Intn(4), 2+c.Intn(7), 7)
		q := many(len(f.Bars), c.q)
		seen[heldAgainst(t, f, q, c.loads(f))]++
		firm(t, f, q)
	}
	if len(seen) < 3 || seen[api.Fault{}] < 5 {
		t.Errorf("%v", seen)
	}
}

// As many joints and bars as may be, with numbers that are long: as many squares as the joints can have between them.
func TestMostLong(t *testing.T) {
	c := chance{Rand: rand.New(rand.NewSource(11)), digits: 100}
	f := most()
	for i := range f.Joints {
		f.Joints[i] = spot(c.q(), c.q())
	}
	f.Holds = f.Holds[:5] // the third joint is held along alone
	q := many(len(f.Bars), c.above)
	if even, plus, minus, g := cable.Firm(f, q); even || plus != api.MaxJoints-1 || minus != 0 || g != (api.Fault{}) {
		t.Errorf("%v %d %d %v", even, plus, minus, g)
	}
	s, g := cable.Shape(f, q, nil)
	if g != (api.Fault{}) {
		t.Fatalf("%v", g)
	}
	for joint, sum := range pulled(f, q, nil, pairs(s)) {
		for way := range 2 {
			if !isHeld(f, joint, way) && (sum[way].Sign() != 0 || !within(f, pairs(s), joint, way)) {
				t.Errorf("joint %d, way %d", joint, way)
			}
		}
	}
}

// Numbers that are as long as all but one digit of one another cancel, or all but cancel.
func TestAllButTheLastDigit(t *testing.T) {
	long := "1" + strings.Repeat("0", 3000)
	f := drawn(hung, cables, feet)
	nowhere(t, "to 0", f, long+"1 -"+long+"1", "", fault(api.ErrNone, 0))
	if got := settled(t, f, numbers(long+"1 -"+long+"2"), nil); got[0] != spot(api.Q("2"+long[1:]+"4"), "0") {
		t.Errorf("%d digits", len(got[0].X))
	}
	if got := settled(t, f, numbers("1/"+long+" 1/"+long), pulls("0=0,-4")); got[0] != spot("1", api.Q("-2"+long[1:])) {
		t.Errorf("%d digits", len(got[0].Y))
	}
	two := drawn("0,0 1,0", "0-1 1-0", "")
	for q, want := range map[string]string{long + "1 -" + long + "1": "true 0 0", long + "1 -" + long + "2": "false 0 1", "-1/" + long + "1 1/" + long: "false 1 0"} {
		if got := firm(t, two, numbers(q)); got != want {
			t.Errorf("%s, want %s", got, want)
		}
	}
	line := drawn("0,0 1,0 "+long+",0", "0-1 1-2 0-2", "")
	far := new(big.Rat).Sub(read(api.Q(long)), big.NewRat(1, 1))
	near := told(new(big.Rat).Quo(big.NewRat(1, 1), far))
	if got := firm(t, line, []api.Q{"1", near, "-1/" + api.Q(long)}); got != "true 1 0" {
		t.Errorf("in a line: %s", got)
	}
	if got := firm(t, line, []api.Q{"1", near, "-1/" + api.Q(long) + "1"}); got != "false 2 0" {
		t.Errorf("in a line, a strut too weak: %s", got)
	}
}
