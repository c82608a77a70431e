package swing_test

import (
	"math"
	"slices"
	"testing"

	"rafter/api"
	"rafter/swing"
)

func notCounted(t *testing.T, what string, f api.Frame, masses []api.Q, w api.Q, want api.Fault) {
	t.Helper()
	if n, g := swing.Below(f, masses, w); n != 0 || g != want {
		t.Errorf("%s: %d masses: below %q: %d %v, want %v", what, len(masses), w, n, g, want)
	}
}

func notTold(t *testing.T, what string, f api.Frame, masses []api.Q, digits int, want api.Fault) {
	t.Helper()
	if q, g := swing.Lowest(f, masses, digits); q != "" || g != want {
		t.Errorf("%s: %d masses: %d digits: %q %v, want %v", what, len(masses), digits, q, g, want)
	}
}

func notMoved(t *testing.T, what string, f api.Frame, masses []api.Q, motion []api.Spot, want api.Fault) {
	t.Helper()
	if q, g := swing.Quotient(f, masses, motion); q != "" || g != want {
		t.Errorf("%s: %d masses: %v: %q %v, want %v", what, len(masses), motion, q, g, want)
	}
}

// moved is a motion of n joints, which moves each of them in both ways.
func moved(n int) []api.Spot { return slices.Repeat([]api.Spot{spot("1", "-1/2")}, n) }

// refused holds the faults of all three calls against want, whatever else they are given.
func refused(t *testing.T, what string, f api.Frame, masses []api.Q, want api.Fault) {
	t.Helper()
	for _, w := range []api.Q{"0", "1", "-1", "x"} {
		notCounted(t, what, f, masses, w, want)
	}
	for _, digits := range []int{0, 3, api.MaxDigits, -1, api.MaxDigits + 1, math.MinInt, math.MaxInt} {
		notTold(t, what, f, masses, digits, want)
	}
	n := len(f.Joints)
	for _, m := range [][]api.Spot{nil, make([]api.Spot, n), moved(n), moved(n + 1), make([]api.Spot, n+1), moved(100)} {
		notMoved(t, what, f, masses, m, want)
	}
}

// everywhere does the same of a frame that isn't right, with any masses.
func everywhere(t *testing.T, what string, f api.Frame, want api.Fault) {
	t.Helper()
	n := len(f.Joints)
	for _, masses := range [][]api.Q{nil, ones(n), ones(n + 1), ones(max(n-1, 0)), make([]api.Q, n), slices.Repeat(numbers("-1"), n), ones(100)} {
		refused(t, what, f, masses, want)
	}
}

func TestFaultsOfMany(t *testing.T) {
	many := fault(api.ErrMany, 0)
	everywhere(t, "nothing", api.Frame{}, many)
	everywhere(t, "no joint", api.Frame{Joints: []api.Spot{}, Bars: []api.Bar{{A: 0, B: 1}}, Holds: []api.Hold{{Way: 9}}}, many)
	for _, c := range []struct {
		what string
		turn func(f *api.Frame)
	}{
		{"one joint more", func(f *api.Frame) { f.Joints = append(f.Joints, spot("77", "0")) }},
		{"one bar more", func(f *api.Frame) { f.Bars = append(f.Bars, f.Bars[0]) }},
		{"one hold more", func(f *api.Frame) { f.Holds = append(f.Holds, f.Holds[0]) }},
		{"many ahead of a bar's joint", func(f *api.Frame) { f.Joints = append(f.Joints, spot("77", "0")); f.Bars[0].A = -1 }},
	} {
		f := most()
		c.turn(&f)
		everywhere(t, c.what, f, many)
	}
}

// A hold that has the joint and the way of one ahead is never let be, wherever the two are moved.
func TestFaultsOfFrames(t *testing.T) {
	for _, c := range []struct {
		what string
		turn func(f *api.Frame)
		want api.Fault
	}{
		{"A is no joint", func(f *api.Frame) { f.Bars[1].A = 4 }, fault(api.ErrJoint, 1)},
		{"B is no joint", func(f *api.Frame) { f.Bars[3].B = math.MinInt }, fault(api.ErrJoint, 3)},
		{"one joint twice", func(f *api.Frame) { f.Bars[2].B = 2 }, fault(api.ErrValue, 2)},
		{"at one place", func(f *api.Frame) { f.Joints[1] = spot("-0", "0/3") }, fault(api.ErrValue, 0)},
		{"not stiff", func(f *api.Frame) { f.Bars[2].C = "0" }, fault(api.ErrValue, 2)},
		{"stiff by no number", func(f *api.Frame) { f.Bars[2].C = "1/0" }, fault(api.ErrValue, 2)},
		{"less than not stiff", func(f *api.Frame) { f.Bars[3].C = "-1/99999" }, fault(api.ErrValue, 3)},
		{"Least above 0", func(f *api.Frame) { f.Bars[2].Least = "1/99999" }, fault(api.ErrValue, 2)},
		{"Most below 0", func(f *api.Frame) { f.Bars[3].Most = "-1/99999" }, fault(api.ErrValue, 3)},
		{"a hold of no joint", func(f *api.Frame) { f.Holds[1].Joint = 4 }, fault(api.ErrJoint, 5)},
		{"a hold in no way", func(f *api.Frame) { f.Holds[2].Way = 3 }, fault(api.ErrKind, 6)},
		{"a hold in no way, below", func(f *api.Frame) { f.Holds[2].Way = math.MinInt }, fault(api.ErrKind, 6)},
		{"a hold twice", func(f *api.Frame) { f.Holds[1].Way = api.Along }, fault(api.ErrTwice, 5)},
		{"a hold twice, moved elsewhere", func(f *api.Frame) { f.Holds[1].Way, f.Holds[1].By = api.Along, "1" }, fault(api.ErrTwice, 5)},
		{"a hold twice, both moved alike", func(f *api.Frame) { f.Holds[2].Joint, f.Holds[2].By, f.Holds[1].By = 0, "2/2", "1" }, fault(api.ErrTwice, 6)},
		{"the first bar of two", func(f *api.Frame) { f.Bars[1].Most, f.Bars[2].A = "-1", -1 }, fault(api.ErrValue, 1)},
		{"the joint ahead of the value", func(f *api.Frame) { f.Bars[2].Least, f.Bars[2].A = "1", -1 }, fault(api.ErrJoint, 2)},
		{"bars ahead of holds", func(f *api.Frame) { f.Bars[3].C, f.Holds[0].Joint = "", -1 }, fault(api.ErrValue, 3)},
	} {
		f := drawn(square, sides, supports)
		c.turn(&f)
		everywhere(t, c.what, f, c.want)
	}
}

// framed are frames that are right, and where their end is.
var framed = []struct {
	what, places, bars, holds string
	at                        int
}{
	{"a square", square, sides, supports, 7},
	{"a square that isn't held", square, sides, "", 4},
	{"two bars", rights, rightly, feet, 6},
	{"all is held", rights, rightly, feet + " 0x 0y", 8},
	{"no bars", rights, "", supports, 3},
	{"a joint alone", "5,7", "", "", 0},
	{"a joint that is held", "5,7", "", "0x 0y", 2},
}

// Too few or too many masses are told of ahead of what they are, of digits, of motions, and of there being none.
func TestFaultsOfCounts(t *testing.T) {
	for _, c := range framed {
		f := drawn(c.places, c.bars, c.holds)
		n := len(f.Joints)
		for _, m := range []int{0, n - 1, n + 1, 2 * n, c.at, len(f.Bars), 100} {
			if m == n {
				continue
			}
			refused(t, c.what, f, ones(m), fault(api.ErrCount, c.at))
			refused(t, c.what, f, make([]api.Q, m), fault(api.ErrCount, c.at))
		}
		refused(t, c.what+", nil", f, nil, fault(api.ErrCount, c.at))
	}
	f := most()
	for _, m := range []int{0, api.MaxJoints - 1, api.MaxJoints + 1} {
		refused(t, "as many as may be", f, ones(m), fault(api.ErrCount, api.MaxBars+api.MaxHolds))
	}
}

// The first mass that isn't above 0 is told of, ahead of digits, of motions, and of there being none. What is held must have a mass, too.
func TestFaultsOfMasses(t *testing.T) {
	for _, c := range framed {
		f := drawn(c.places, c.bars, c.holds)
		n := len(f.Joints)
		for i := range n {
			for _, wrong := range []api.Q{"0", "-1", "-1/1000000000000000000000", "", "x", "1/0", "-0", "0/7", "+1", "1.5", " 1", "1/-2"} {
				masses := ones(n)
				masses[i] = wrong
				refused(t, c.what, f, masses, fault(api.ErrValue, c.at+i))
				for k := i + 1; k < n; k++ { // the first of several
					masses[k] = "-7"
				}
				refused(t, c.what, f, masses, fault(api.ErrValue, c.at+i))
			}
		}
		masses := slices.Repeat(numbers("1/1000000000000000000000"), n)
		heldAgainst(t, f, masses, rats(numbers("0 1")))
	}
	f, masses := most(), ones(api.MaxJoints)
	masses[api.MaxJoints-1] = "0"
	refused(t, "the last of as many as may be", f, masses, fault(api.ErrValue, api.MaxBars+api.MaxHolds+api.MaxJoints-1))
}

// Too few or too many digits are told of ahead of there being none.
func TestFaultsOfDigits(t *testing.T) {
	for _, c := range framed {
		f := drawn(c.places, c.bars, c.holds)
		masses := ones(len(f.Joints))
		for _, digits := range []int{-1, -2, math.MinInt, api.MaxDigits + 1, 64, 1000, math.MaxInt} {
			notTold(t, c.what, f, masses, digits, fault(api.ErrMany, c.at))
		}
		for digits := range api.MaxDigits + 1 {
			lowest(t, f, masses, digits)
		}
	}
	notTold(t, "as many as may be", most(), ones(api.MaxJoints), api.MaxDigits+1, fault(api.ErrMany, api.MaxBars+api.MaxHolds))
}

// There is no least pace squared just if every joint is held in both ways.
func TestNoneOfThem(t *testing.T) {
	for _, digits := range []int{0, 1, api.MaxDigits} {
		for _, c := range framed {
			f := drawn(c.places, c.bars, c.holds)
			f.Holds = nil
			for i := range f.Joints {
				f.Holds = append(f.Holds, api.Hold{Joint: i, Way: api.Up, By: "3"}, api.Hold{Joint: i, Way: api.Along})
			}
			notTold(t, c.what, f, ones(len(f.Joints)), digits, fault(api.ErrNone, 0))
			for i := range f.Holds {
				less := f
				less.Holds = slices.Delete(slices.Clone(f.Holds), i, i+1)
				lowest(t, less, ones(len(f.Joints)), digits)
			}
		}
		notTold(t, "as many as may be", most(), ones(api.MaxJoints), digits, fault(api.ErrNone, 0))
	}
}

// Too few or too many joints that move are told of ahead of what moves them, and of nothing that moves.
func TestFaultsOfMotions(t *testing.T) {
	for _, c := range framed {
		f := drawn(c.places, c.bars, c.holds)
		n := len(f.Joints)
		for _, m := range []int{0, n - 1, n + 1, 2 * n, c.at, 100} {
			if m == n {
				continue
			}
			notMoved(t, c.what, f, ones(n), moved(m), fault(api.ErrCount, c.at))
			notMoved(t, c.what, f, ones(n), make([]api.Spot, m), fault(api.ErrCount, c.at))
		}
		notMoved(t, c.what+", nil", f, ones(n), nil, fault(api.ErrCount, c.at))
		for _, nothing := range []string{"0,0", ",", "x,1/0", "-0,0/5", "+1,1.0"} {
			notMoved(t, c.what, f, ones(n), slices.Repeat(spots(nothing), n), fault(api.ErrNone, 0))
		}
	}
	notMoved(t, "as many as may be", most(), ones(api.MaxJoints), moved(api.MaxJoints+1), fault(api.ErrCount, api.MaxBars+api.MaxHolds))
	notMoved(t, "as many as may be, nothing moves", most(), ones(api.MaxJoints), make([]api.Spot, api.MaxJoints), fault(api.ErrNone, 0))
}

// The first hold whose joint moves in its way is told of, by its own number, not by its joint's.
func TestFaultsOfWhatIsHeld(t *testing.T) {
	f := drawn(square, sides, "3y 0x 2x 0y") // held at 4, 5, 6 and 7
	for _, c := range []struct {
		what, motion string
		at           int
	}{
		{"the first", "0,0 0,0 0,0 0,1", 4},
		{"the second", "1,0 0,0 0,0 0,0", 5},
		{"the third", "0,0 0,0 -1/99999999999999999999,0 0,0", 6},
		{"the last", "0,1 0,0 0,0 0,0", 7},
		{"all of them", "1,1 1,1 1,1 1,1", 4},
		{"all but the first", "1,1 1,1 1,1 1,0", 5},
		{"the last two", "0,1 1,1 1,1 1,x", 6},
		{"beside what is free to move", "0,5 1,2 0,3 4,0", 7},
	} {
		notMoved(t, c.what, f, ones(4), spots(c.motion), fault(api.ErrValue, c.at))
	}
	if got := quotient(t, f, ones(4), spots("0,0 1,2 0,3 4,1/0")); got.Sign() <= 0 {
		t.Errorf("what is free to move: %v", got)
	}
	m := moved(api.MaxJoints)
	notMoved(t, "as many as may be", most(), ones(api.MaxJoints), m, fault(api.ErrValue, api.MaxBars))
	m = make([]api.Spot, api.MaxJoints)
	m[api.MaxJoints-1].Y = "1"
	notMoved(t, "the last of as many as may be", most(), ones(api.MaxJoints), m, fault(api.ErrValue, api.MaxBars+api.MaxHolds-1))
}
