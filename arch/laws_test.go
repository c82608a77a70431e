package arch_test

import (
	"fmt"
	"math/big"
	"math/rand"
	"slices"
	"strings"
	"testing"

	"rafter/api"
	"rafter/arch"
)

// chance draws arches.
type chance struct {
	*rand.Rand
	digits int // how long its numbers are; 0: few and short ones, so that much of what is drawn is just at an end
}

// some is a number from 0 on, at times 0.
func (c chance) some() *big.Rat {
	if c.Intn(4) == 0 {
		return new(big.Rat)
	}
	if c.digits == 0 {
		return big.NewRat(int64(1+c.Intn(4)), int64(1+c.Intn(2)))
	}
	return new(big.Rat).SetFrac(c.long(), c.long())
}

func (c chance) any() *big.Rat {
	if c.Intn(2) == 0 {
		return new(big.Rat).Neg(c.some())
	}
	return c.some()
}

func (c chance) long() *big.Int {
	var b strings.Builder
	b.WriteByte(byte('1' + c.Intn(9)))
	for range c.digits {
		b.WriteByte(byte('0' + c.Intn(10)))
	}
	x, _ := new(big.Int).SetString(b.String(), 10)
	return x
}

// stones are mostly such as one line at least fits; at times all have Low at High, at times none between the ends weighs anything.
func (c chance) stones(most int) []api.Stone {
	n := 2 + c.Intn(most-1)
	l := make([]api.Stone, n)
	at, y, slope, slack := c.any(), c.any(), c.any(), c.some()
	fitting, light, narrow := c.Intn(4) > 0, c.Intn(6) == 0, c.Intn(6) == 0
	for i := range l {
		weight := c.some()
		if light {
			weight = new(big.Rat)
		}
		if !fitting {
			y = c.any()
		}
		low, high := less(y, c.some()), add(y, c.some())
		if narrow {
			low, high = y, y
		}
		l[i] = api.Stone{At: told(at), Weight: told(weight), Low: told(low), High: told(high)}
		if light && (i == 0 || i == n-1) {
			l[i].Weight = "7"
		}
		way := add(c.some(), big.NewRat(1, 2))
		if i > 0 {
			slope = less(slope, times(slack, weight))
		}
		at, y = add(at, way), add(y, times(slope, way))
	}
	return l
}

// ends is what Slacks tells, where it tells any; most is nil, if it is open.
func ends(t *testing.T, l []api.Stone) (least, most *big.Rat, ok bool) {
	t.Helper()
	first, last, open, f := arch.Slacks(l)
	if f != (api.Fault{}) {
		return nil, nil, false
	}
	if open {
		return rat(t, first), nil, true
	}
	return rat(t, first), rat(t, last), true
}

func mean(a, b *big.Rat) *big.Rat { return times(add(a, b), big.NewRat(1, 2)) }

// inside are slacks that must have a line, outside such as must have none.
func inside(least, most *big.Rat) []*big.Rat {
	if most == nil {
		return []*big.Rat{least, add(least, big.NewRat(1, 3)), big.NewRat(1000000, 1)}
	}
	return []*big.Rat{least, most, mean(least, most), mean(least, mean(least, most))}
}

func outside(least, most *big.Rat) []*big.Rat {
	var l []*big.Rat
	small := new(big.Rat).SetFrac64(1, 1000000)
	if most != nil {
		l = append(l, add(most, small), add(most, big.NewRat(9, 1)))
	}
	if least.Sign() > 0 {
		l = append(l, new(big.Rat), mean(new(big.Rat), least), less(least, times(least, small)))
	}
	return l
}

func lineOf(t *testing.T, l []api.Stone, slack *big.Rat) []api.Q {
	t.Helper()
	y, f := arch.Line(l, told(slack))
	if why := noLine(l, told(slack), y); why != "" || f != (api.Fault{}) {
		t.Fatalf("%v: slack %v: %v %v: %s", l, slack, y, f, why)
	}
	return y
}

func hasNone(t *testing.T, l []api.Stone, slack *big.Rat) {
	t.Helper()
	if y, f := arch.Line(l, told(slack)); y != nil || f != fault(api.ErrNone, 0) {
		t.Fatalf("%v: slack %v: %v %v", l, slack, y, f)
	}
}

func stands(t *testing.T, l []api.Stone, slack *big.Rat, y []api.Q) bool {
	t.Helper()
	ok, f := arch.Stands(l, told(slack), y)
	if f != (api.Fault{}) {
		t.Fatalf("%v: slack %v: %v: %v", l, slack, y, f)
	}
	return ok
}

// Slacks tells what all corners of what fits tell, and Line has a line just for those from the least to the greatest.
func TestManyArches(t *testing.T) {
	c := chance{Rand: rand.New(rand.NewSource(1))}
	seen := map[string]int{}
	for i := range 1500 {
		l := c.stones([]int{3, 4, 6}[i%3])
		got, want := toldSlacks(t, l), slacksByCorners(l)
		if got != want {
			t.Fatalf("%v: %s, want %s", l, got, want)
		}
		least, most, ok := ends(t, l)
		if !ok {
			seen["none"]++
			for _, h := range []*big.Rat{new(big.Rat), big.NewRat(1, 2), big.NewRat(3, 1)} {
				hasNone(t, l, h)
			}
			continue
		}
		switch {
		case most == nil:
			seen["open"]++
		case least.Cmp(most) == 0:
			seen["one"]++
		case least.Sign() > 0:
			seen["some"]++
		default:
			seen["from 0"]++
		}
		for _, h := range inside(least, most) {
			lineOf(t, l, h)
		}
		for _, h := range outside(least, most) {
			hasNone(t, l, h)
		}
	}
	for _, kind := range []string{"none", "open", "one", "some", "from 0"} {
		if seen[kind] < 40 {
			t.Errorf("%s: %d alone", kind, seen[kind])
		}
	}
}

// As many stones as there may be.
func TestFullArches(t *testing.T) {
	c := chance{Rand: rand.New(rand.NewSource(2))}
	full := 0
	for full < 40 {
		l := c.stones(api.MaxStones)
		if len(l) < api.MaxStones {
			continue
		}
		full++
		if got, want := toldSlacks(t, l), slacksByCorners(l); got != want {
			t.Fatalf("%v: %s, want %s", l, got, want)
		}
		if least, most, ok := ends(t, l); ok {
			for _, h := range inside(least, most) {
				lineOf(t, l, h)
			}
			for _, h := range outside(least, most) {
				hasNone(t, l, h)
			}
		}
	}
}

func TestLongNumbers(t *testing.T) {
	for _, digits := range []int{9, 19, 40, 120} {
		c := chance{rand.New(rand.NewSource(int64(digits))), digits}
		fitting := 0
		for range 25 {
			l := c.stones(4)
			if got, want := toldSlacks(t, l), slacksByCorners(l); got != want {
				t.Fatalf("%v: %s, want %s", l, got, want)
			}
			least, most, ok := ends(t, l)
			if !ok {
				continue
			}
			fitting++
			for _, h := range inside(least, most) {
				if y := lineOf(t, l, h); !stands(t, l, h, y) {
					t.Fatalf("%v: slack %v: %v", l, h, y)
				}
			}
			for _, h := range outside(least, most) {
				hasNone(t, l, h)
			}
		}
		if fitting < 10 {
			t.Errorf("%d digits: %d have a line", digits, fitting)
		}
	}
	c := chance{rand.New(rand.NewSource(5)), 400}
	for range 6 {
		l := c.stones(api.MaxStones)
		if least, most, ok := ends(t, l); ok {
			lineOf(t, l, inside(least, most)[1])
		}
	}
}

// Stands tells of heights what the chapter's words do, of those that are a line's and of those that are nearly so.
func TestStandsOfMany(t *testing.T) {
	c := chance{Rand: rand.New(rand.NewSource(3))}
	seen := map[bool]int{}
	for i := range 1000 {
		c.digits = []int{0, 0, 0, 20}[i%4]
		l := c.stones(6)
		least, most, ok := ends(t, l)
		if !ok {
			continue
		}
		h := inside(least, most)[c.Intn(3)]
		y := lineOf(t, l, h)
		for range 4 {
			z, g := slices.Clone(y), h
			switch c.Intn(5) {
			case 0:
				k := c.Intn(len(z))
				z[k] = told(add(rat(t, z[k]), big.NewRat(int64(c.Intn(3)-1), 1000)))
			case 1:
				by, turn := c.any(), c.any()
				for k := range z {
					z[k] = told(add(rat(t, z[k]), add(by, times(turn, rat(t, l[k].At)))))
				}
			case 2:
				for k := c.Intn(len(z)); k < len(z); k++ {
					z[k] = told(add(rat(t, z[k]), big.NewRat(1, 1000)))
				}
			case 3:
				g = add(h, big.NewRat(int64(c.Intn(2)), 1000))
			}
			want := noLine(l, told(g), z) == ""
			if got := stands(t, l, g, z); got != want {
				t.Fatalf("%v: slack %v: %v: %v, want %v", l, g, z, got, want)
			}
			seen[want]++
		}
	}
	if seen[true] < 300 || seen[false] < 300 {
		t.Errorf("seen %v", seen)
	}
}

// Every slack between two that have a line has one: what lies between the two lines, as far on its way.
func TestBetween(t *testing.T) {
	c := chance{Rand: rand.New(rand.NewSource(4))}
	for i := range 300 {
		c.digits = []int{0, 0, 12}[i%3]
		l := c.stones(7)
		least, most, ok := ends(t, l)
		if !ok {
			continue
		}
		if most == nil {
			most = add(least, c.some())
		}
		u, v := lineOf(t, l, least), lineOf(t, l, most)
		part := big.NewRat(int64(c.Intn(8)), 7)
		mixed := func(a, b *big.Rat) *big.Rat { return add(a, times(part, less(b, a))) }
		y := make([]api.Q, len(l))
		for k := range l {
			y[k] = told(mixed(rat(t, u[k]), rat(t, v[k])))
		}
		h := mixed(least, most)
		lineOf(t, l, h)
		if !stands(t, l, h, y) {
			t.Fatalf("%v: slack %v: %v", l, h, y)
		}
	}
}

// Stones whose heights lie farther apart have all lines that they had.
func TestFartherApart(t *testing.T) {
	c := chance{Rand: rand.New(rand.NewSource(5))}
	for i := range 400 {
		c.digits = []int{0, 0, 12}[i%3]
		l := c.stones(7)
		least, most, ok := ends(t, l)
		if !ok {
			continue
		}
		wide := slices.Clone(l)
		for k := range wide {
			wide[k].Low, wide[k].High = told(less(rat(t, l[k].Low), c.some())), told(add(rat(t, l[k].High), c.some()))
		}
		first, last, ok := ends(t, wide)
		if !ok || first.Cmp(least) > 0 || (most == nil) != (last == nil) || most != nil && last.Cmp(most) < 0 {
			t.Fatalf("%v has %v to %v, but %v has %v to %v", l, least, most, wide, first, last)
		}
		for _, h := range inside(least, most) {
			lineOf(t, wide, h)
			if y := lineOf(t, l, h); !stands(t, wide, h, y) {
				t.Fatalf("%v: slack %v: %v", wide, h, y)
			}
		}
	}
}

// Slacks are as they were if all is seen from behind, moved, or put on a slope; twice as great if heights are, half as great if weights are twice as great.
func TestSeenOtherwise(t *testing.T) {
	c := chance{Rand: rand.New(rand.NewSource(6))}
	two := big.NewRat(2, 1)
	for i := range 300 {
		c.digits = []int{0, 0, 12}[i%3]
		l := c.stones(7)
		was := toldSlacks(t, l)
		behind, slanted, moved := slices.Clone(l), slices.Clone(l), slices.Clone(l)
		slices.Reverse(behind)
		by, turn, far := c.any(), c.any(), c.any()
		for k, s := range l {
			at := rat(t, s.At)
			behind[len(l)-1-k].At = told(new(big.Rat).Neg(at))
			up := add(by, times(turn, at))
			slanted[k].Low, slanted[k].High = told(add(rat(t, s.Low), up)), told(add(rat(t, s.High), up))
			moved[k].At = told(add(at, far))
		}
		for _, m := range [][]api.Stone{behind, slanted, moved} {
			if now := toldSlacks(t, m); now != was {
				t.Fatalf("%v: %s, but %v: %s", l, was, m, now)
			}
		}
		high, heavy := slices.Clone(l), slices.Clone(l)
		for k, s := range l {
			high[k].Low, high[k].High = told(times(two, rat(t, s.Low))), told(times(two, rat(t, s.High)))
			heavy[k].Weight = told(times(two, rat(t, s.Weight)))
		}
		least, most, ok := ends(t, l)
		scaled(t, high, least, most, ok, two)
		scaled(t, heavy, least, most, ok, big.NewRat(1, 2))
	}
}

// scaled holds the slacks of l against others, times by.
func scaled(t *testing.T, l []api.Stone, least, most *big.Rat, ok bool, by *big.Rat) {
	t.Helper()
	first, last, now := ends(t, l)
	if now != ok || (last == nil) != (most == nil) {
		t.Fatalf("%v: %v to %v, want %v to %v, times %v", l, first, last, least, most, by)
	}
	if ok && fmt.Sprint(first) != fmt.Sprint(times(least, by)) || most != nil && last.Cmp(times(most, by)) != 0 {
		t.Fatalf("%v: %v to %v, want %v to %v, times %v", l, first, last, least, most, by)
	}
}
