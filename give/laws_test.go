package give_test

import (
	"math/big"
	"math/rand"
	"slices"
	"testing"

	"rafter/api"
	"rafter/give"
	"rafter/still"
)

// stiffFrame is a frame that moves in one way alone, E and By all 0.
func (c chance) stiffFrame(t *testing.T, joints, bars int) api.Frame {
	t.Helper()
	for range 10000 {
		f := c.frame(joints, bars)
		if _, g := give.Move(f, nil); g.Code == api.OK && len(f.Bars) > 1 {
			return f
		}
	}
	t.Fatal("no frame is stiff")
	return api.Frame{}
}

func (c chance) someLoads(f api.Frame) []api.Load {
	return append(c.loads(f), load(c.Intn(len(f.Joints)), c.q(), c.q()))
}

func movedBy(t *testing.T, f api.Frame, l []api.Load) api.Moved {
	t.Helper()
	m, g := give.Move(f, l)
	if g != (api.Fault{}) {
		t.Fatalf("%v %v: %v", f, l, g)
	}
	return m
}

// workOf is the loads' work along a motion.
func workOf(t *testing.T, l []api.Load, motion []api.Spot) *big.Rat {
	t.Helper()
	sum := new(big.Rat)
	for _, x := range l {
		sum.Add(sum, times(flat(t, []api.Spot{x.Way}), flat(t, motion[x.Joint:x.Joint+1])))
	}
	return sum
}

func energyOf(t *testing.T, f api.Frame, bars []api.Q) *big.Rat {
	t.Helper()
	e, g := give.Energy(f, bars)
	if g != (api.Fault{}) {
		t.Fatalf("%v %v: %v", f, bars, g)
	}
	return rat(t, e)
}

func TestBetti(t *testing.T) {
	c := chance{Rand: rand.New(rand.NewSource(1)), idle: true}
	something := 0
	for i := range 300 {
		c.long = i%10 == 0
		f := c.stiffFrame(t, 6, 14)
		first, second := c.someLoads(f), c.someLoads(f)
		a, b := workOf(t, first, movedBy(t, f, second).Joints), workOf(t, second, movedBy(t, f, first).Joints)
		if a.Cmp(b) != 0 {
			t.Fatalf("%v: %v works %v, %v works %v", f, first, a, second, b)
		}
		something += a.Sign() * a.Sign()
	}
	if something < 50 {
		t.Errorf("work is done by %d alone", something)
	}
}

func TestClapeyron(t *testing.T) {
	c := chance{Rand: rand.New(rand.NewSource(2)), idle: true}
	for i := range 300 {
		c.long = i%10 == 0
		f := c.stiffFrame(t, 6, 14)
		l := c.someLoads(f)
		m := movedBy(t, f, l)
		work, twice := workOf(t, l, m.Joints), energyOf(t, f, m.Stress.Bars)
		if twice.Add(twice, twice); work.Cmp(twice) != 0 {
			t.Fatalf("%v %v: work %v, twice the energy %v", f, l, work, twice)
		}
	}
}

// Every stress that bears the loads is the true one and some that bears none.
func TestCastigliano(t *testing.T) {
	c := chance{Rand: rand.New(rand.NewSource(3)), idle: true}
	others := 0
	for range 300 {
		f := c.stiffFrame(t, 5, 14)
		m := movedBy(t, f, c.someLoads(f))
		least := energyOf(t, f, m.Stress.Bars)
		none, _ := still.Stresses(f)
		for range 5 {
			bars := rats(t, m.Stress.Bars)
			for _, s := range none {
				by := rat(t, c.q())
				for i, x := range rats(t, s.Bars) {
					bars[i].Add(bars[i], x.Mul(x, by))
				}
			}
			var told []api.Q
			for _, x := range bars {
				told = append(told, api.Q(x.RatString()))
			}
			same := slices.Equal(told, m.Stress.Bars)
			if e := energyOf(t, f, told); e.Cmp(least) < 0 || (e.Cmp(least) == 0) != same {
				t.Fatalf("%v: %v has the energy %v, the true one, %v, %v", f, told, e, m.Stress.Bars, least)
			}
			if !same {
				others++
			}
		}
	}
	if others < 300 {
		t.Errorf("%d others alone", others)
	}
}

// What two lists of loads do together is what each does, added.
func TestAdded(t *testing.T) {
	c := chance{Rand: rand.New(rand.NewSource(4)), idle: true}
	for i := range 300 {
		c.long = i%10 == 0
		f := c.stiffFrame(t, 6, 14)
		first, second := c.someLoads(f), c.someLoads(f)
		both := allNumbers(t, movedBy(t, f, slices.Concat(first, second)))
		a, b := allNumbers(t, movedBy(t, f, first)), allNumbers(t, movedBy(t, f, second))
		for k, x := range both {
			if x.Cmp(a[k].Add(a[k], b[k])) != 0 {
				t.Fatalf("%v: %v and %v: number %d is %v", f, first, second, k, x)
			}
		}
	}
}

func allNumbers(t *testing.T, m api.Moved) list {
	t.Helper()
	return slices.Concat(flat(t, m.Joints), rats(t, m.Stress.Bars), rats(t, m.Stress.Holds))
}
