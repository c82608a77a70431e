package near_test

import (
	"math"
	"math/big"
	"math/rand"
	"testing"

	"rafter/api"
	"rafter/near"
)

// Answers are held here against what nearest means, by the library's fractions: squares of what is halfway to the neighbours of a float are held against the square of what it tells.

// isNearest tells whether f, which isn't below 0, is the nearest float to the root of s.
func isNearest(f float64, s *big.Rat) bool {
	even := math.Float64bits(f)&1 == 0
	if f > 0 {
		low := over(plus(ratOf(math.Nextafter(f, 0)), ratOf(f)), whole(2))
		if c := s.Cmp(times(low, low)); c < 0 || c == 0 && !even {
			return false
		}
	}
	if math.IsInf(f, 1) {
		return true
	}
	high := over(plus(ratOf(f), ratOf(math.Nextafter(f, math.Inf(1)))), whole(2))
	c := s.Cmp(times(high, high))
	return c < 0 || c == 0 && even
}

func TestNearestIsTold(t *testing.T) {
	for _, c := range []struct {
		f    float64
		s    *big.Rat
		want bool
	}{
		{1, whole(1), true}, {2, whole(4), true}, {math.Sqrt2, whole(2), true}, {0, power(-2150), true}, {math.Inf(1), power(2048), true},
		{math.Nextafter(1, 2), whole(1), false}, {math.Nextafter(1, 0), whole(1), false}, {math.Sqrt2, whole(3), false},
		{math.SmallestNonzeroFloat64, power(-2150), false}, {math.MaxFloat64, power(2048), false}, {math.Inf(1), power(2046), false}, {0, whole(1), false},
	} {
		if got := isNearest(c.f, c.s); got != c.want {
			t.Errorf("%v, of %v: %v", c.f, c.s, got)
		}
	}
}

// squareOf is that of a bar's length; the joints' fractions are all in lowest terms here.
func squareOf(t *testing.T, f api.Frame, b api.Bar) *big.Rat {
	t.Helper()
	x, y := minus(read(t, f.Joints[b.B].X), read(t, f.Joints[b.A].X)), minus(read(t, f.Joints[b.B].Y), read(t, f.Joints[b.A].Y))
	return plus(times(x, x), times(y, y))
}

func read(t *testing.T, q api.Q) *big.Rat {
	t.Helper()
	x, ok := new(big.Rat).SetString(string(q))
	if !ok {
		t.Fatalf("%q is no fraction", q)
	}
	return x
}

// held holds what both calls tell against the chapter, and counts what floats they tell.
func held(t *testing.T, f api.Frame, bars []api.Q, seen map[string]int) {
	t.Helper()
	l, g := near.Long(f)
	if len(l) != len(f.Bars) || g != (api.Fault{}) {
		t.Fatalf("%v: %v %v", f, l, g)
	}
	p, g := near.Pulls(f, bars)
	if len(p) != len(f.Bars) || g != (api.Fault{}) {
		t.Fatalf("%v %v: %v %v", f, bars, p, g)
	}
	for i, b := range f.Bars {
		s, stress := squareOf(t, f, b), read(t, bars[i])
		if math.Signbit(l[i]) || !isNearest(l[i], s) {
			t.Fatalf("the root of %v: %v", s, l[i])
		}
		if math.Signbit(p[i]) != (stress.Sign() < 0) || !isNearest(math.Abs(p[i]), times(s, times(stress, stress))) {
			t.Fatalf("%v times the root of %v: %v", stress, s, p[i])
		}
		seen[kindOf(l[i])]++
		seen[kindOf(p[i])]++
	}
}

func kindOf(f float64) string {
	f = math.Abs(f)
	switch {
	case math.IsInf(f, 1):
		return "infinite"
	case f == 0:
		return "0"
	case f < 0x1p-1022:
		return "of few bits"
	case math.Float64bits(f)&1 == 1:
		return "odd"
	}
	return "even"
}

// chance draws fractions and frames.
type chance struct {
	*rand.Rand
	reach int // powers of 2 go as far as this
}

// long is a fraction above 0: a few bits, or as many as halfway between two floats has, or that and a hair, or any, times a power of 2.
func (c chance) long() *big.Rat {
	x := whole(1 + c.Int63n(9))
	switch c.Intn(4) {
	case 0:
		x = whole(1<<53 + c.Int63n(1<<53) | 1)
	case 1:
		x = plus(whole(1<<53+c.Int63n(1<<53)|1), big.NewRat(int64(c.Intn(3)-1), 1<<62))
	case 2:
		x = big.NewRat(1+c.Int63(), 1+c.Int63())
	}
	return times(x, power(c.Intn(2*c.reach+1)-c.reach))
}

func (c chance) signed() *big.Rat {
	x := c.long()
	switch c.Intn(7) {
	case 0:
		return new(big.Rat)
	case 1, 2, 3:
		x.Neg(x)
	}
	return x
}

// way is along X or Y, or of a length that is a fraction, or of any.
func (c chance) way() (x, y *big.Rat) {
	long := c.long()
	switch c.Intn(4) {
	case 0:
		return long, new(big.Rat)
	case 1:
		return new(big.Rat), new(big.Rat).Neg(long)
	case 2:
		return over(times(long, whole(-3)), whole(5)), over(times(long, whole(4)), whole(5))
	}
	return long, c.signed()
}

// frame is bars from one joint to others, which lie anywhere, and stresses of these.
func (c chance) frame() (api.Frame, []api.Q) {
	var f api.Frame
	var bars []api.Q
	x, y := new(big.Rat), new(big.Rat)
	if c.Intn(3) == 0 {
		x, y = c.signed(), c.signed()
	}
	f.Joints = append(f.Joints, spot(text(x), text(y)))
	for i := range 1 + c.Intn(3) {
		dx, dy := c.way()
		f.Joints = append(f.Joints, spot(text(plus(x, dx)), text(plus(y, dy))))
		f.Bars = append(f.Bars, api.Bar{A: 0, B: i + 1, C: "1"})
		bars = append(bars, text(c.signed()))
	}
	return f, bars
}

func TestAgainstTheChapter(t *testing.T) {
	seen := map[string]int{}
	r := rand.New(rand.NewSource(11))
	for i := range 4000 {
		f, bars := chance{Rand: r, reach: []int{0, 30, 600, 1150}[i%4]}.frame()
		held(t, f, bars, seen)
	}
	for _, k := range []string{"infinite", "0", "of few bits", "odd", "even"} {
		if seen[k] < 50 {
			t.Errorf("only %d that are %s", seen[k], k)
		}
	}
}

// Lengths around the least floats and the greatest ones, where what is nearest changes.
func TestBothEnds(t *testing.T) {
	seen := map[string]int{}
	c := chance{Rand: rand.New(rand.NewSource(12)), reach: 4}
	for i := range 1500 {
		end := power([]int{-1074, -1022 - 53, 1024 - 54}[i%3])
		f, bars := c.frame()
		f.Joints[0] = spot("0", "0")
		for k := range f.Joints[1:] {
			x, y := c.way()
			f.Joints[k+1] = spot(text(times(end, x)), text(times(end, y)))
		}
		held(t, f, bars, seen)
	}
	for _, k := range []string{"infinite", "0", "of few bits", "odd", "even"} {
		if seen[k] < 50 {
			t.Errorf("only %d that are %s", seen[k], k)
		}
	}
}
