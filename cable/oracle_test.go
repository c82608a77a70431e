package cable_test

import (
	"fmt"
	"math/big"
	"slices"
	"strings"
	"testing"

	"rafter/api"
	"rafter/cable"
)

// Answers are held against the chapter's words here, by the library's fractions: what hangs together is told by right angles, how many squares there are by the signs of a polynomial.

func rat(t *testing.T, q api.Q) *big.Rat {
	t.Helper()
	x, ok := new(big.Rat).SetString(string(q))
	if !ok || x.RatString() != string(q) {
		t.Fatalf("%q isn't in lowest terms", q)
	}
	return x
}

func isDigits(s string) bool { return s != "" && strings.Trim(s, "0123456789") == "" }

// read reads what is handed in: what isn't written as a fraction counts as 0.
func read(q api.Q) *big.Rat {
	top, low, barred := strings.Cut(strings.TrimPrefix(string(q), "-"), "/")
	if !isDigits(top) || barred && (!isDigits(low) || strings.Trim(low, "0") == "") {
		return new(big.Rat)
	}
	x := new(big.Rat).SetInt(whole(top))
	if barred {
		x.Quo(x, new(big.Rat).SetInt(whole(low)))
	}
	if q[0] == '-' {
		x.Neg(x)
	}
	return x
}

// whole reads digits, noughts ahead of them or not.
func whole(digits string) *big.Int {
	x, _ := new(big.Int).SetString(digits, 10)
	return x
}

func told(x *big.Rat) api.Q { return api.Q(x.RatString()) }

// pair is X and Y.
type pair [2]*big.Rat

func pairs(l []api.Spot) []pair {
	var p []pair
	for _, s := range l {
		p = append(p, pair{read(s.X), read(s.Y)})
	}
	return p
}

// pulled is what P10.1 adds up at each joint, if the joints are at these places.
func pulled(f api.Frame, q []api.Q, l []api.Load, at []pair) []pair {
	sums := make([]pair, len(at))
	for joint := range at {
		for way := range 2 {
			sum := new(big.Rat)
			for _, x := range l {
				if x.Joint == joint {
					sum.Add(sum, pairs([]api.Spot{x.Way})[0][way])
				}
			}
			for i, b := range f.Bars {
				if b.A != joint && b.B != joint {
					continue
				}
				far := new(big.Rat).Sub(at[b.A+b.B-joint][way], at[joint][way])
				sum.Add(sum, far.Mul(far, read(q[i])))
			}
			sums[joint][way] = sum
		}
	}
	return sums
}

func isHeld(f api.Frame, joint, way int) bool {
	return slices.ContainsFunc(f.Holds, func(h api.Hold) bool { return h.Joint == joint && h.Way == way+api.Along })
}

type list []*big.Rat

func (a list) times(b list) *big.Rat {
	sum := new(big.Rat)
	for i := range a {
		sum.Add(sum, new(big.Rat).Mul(a[i], b[i]))
	}
	return sum
}

func (a list) isZero() bool {
	return !slices.ContainsFunc(a, func(x *big.Rat) bool { return x.Sign() != 0 })
}

// corner is lists at right angles to each other.
type corner []list

// rest is what of a stands at right angles to all of c.
func (c corner) rest(a list) list {
	r := make(list, len(a))
	for i := range a {
		r[i] = new(big.Rat).Set(a[i])
	}
	for _, b := range c {
		by := r.times(b)
		by.Quo(by, b.times(b))
		for i := range r {
			r[i].Sub(r[i], new(big.Rat).Mul(by, b[i]))
		}
	}
	return r
}

// wanted is what the Code must be in one way: what pulls at the joints that are free there, changes by a column if one of them is moved by 1.
func wanted(f api.Frame, q []api.Q, l []api.Load, way int) api.Errno {
	var free []int
	at := pairs(f.Joints)
	for joint := range at {
		if !isHeld(f, joint, way) {
			free = append(free, joint)
			at[joint][way] = new(big.Rat)
		}
	}
	pull := func() list {
		sums := pulled(f, q, l, at)
		r := make(list, len(free))
		for i, joint := range free {
			r[i] = sums[joint][way]
		}
		return r
	}
	still := pull()
	var c corner
	loose := false
	for _, joint := range free {
		at[joint][way] = big.NewRat(1, 1)
		column := pull()
		for i := range column {
			column[i].Sub(column[i], still[i])
		}
		at[joint][way] = new(big.Rat)
		if r := c.rest(column); r.isZero() {
			loose = true
		} else {
			c = append(c, r)
		}
	}
	if !c.rest(still).isZero() {
		return api.ErrNone
	}
	if loose {
		return api.ErrFree
	}
	return api.OK
}

// heldAgainst holds what Shape tells against the chapter, and answers its fault.
func heldAgainst(t *testing.T, f api.Frame, q []api.Q, l []api.Load) api.Fault {
	t.Helper()
	s, g := cable.Shape(f, q, l)
	for way := range 2 {
		if e := wanted(f, q, l, way); e != api.OK {
			if s != nil || g != fault(e, way) {
				t.Fatalf("%v %v %v: %v %v, want %v", f, q, l, s, g, fault(e, way))
			}
			return g
		}
	}
	if g != (api.Fault{}) || len(s) != len(f.Joints) {
		t.Fatalf("%v %v %v: %v %v", f, q, l, s, g)
	}
	for _, x := range s {
		rat(t, x.X)
		rat(t, x.Y)
	}
	before, after := pairs(f.Joints), pairs(s)
	for joint, sum := range pulled(f, q, l, after) {
		for way := range 2 {
			if isHeld(f, joint, way) {
				if before[joint][way].Cmp(after[joint][way]) != 0 {
					t.Fatalf("%v %v %v: %v: joint %d doesn't stay", f, q, l, s, joint)
				}
			} else if sum[way].Sign() != 0 {
				t.Fatalf("%v %v %v: %v: joint %d is pulled by %v", f, q, l, s, joint, sum[way])
			}
		}
	}
	return g
}

// settled does the same where there is just one shape, and answers that.
func settled(t *testing.T, f api.Frame, q []api.Q, l []api.Load) []api.Spot {
	t.Helper()
	if g := heldAgainst(t, f, q, l); g != (api.Fault{}) {
		t.Fatalf("%v %v %v: %v", f, q, l, g)
	}
	s, _ := cable.Shape(f, q, l)
	return s
}

// formed is what P10.2's form makes of a number for each joint.
func formed(f api.Frame, q []api.Q, x list) *big.Rat {
	sum := new(big.Rat)
	for i, b := range f.Bars {
		d := new(big.Rat).Sub(x[b.A], x[b.B])
		sum.Add(sum, d.Mul(d, d).Mul(d, read(q[i])))
	}
	return sum
}

// tableOf has the form's numbers: what it makes of two joints' being 1, less what of each alone, halved.
func tableOf(f api.Frame, q []api.Q) []list {
	n := len(f.Joints)
	of := func(joints ...int) *big.Rat {
		x := make(list, n)
		for i := range x {
			x[i] = new(big.Rat)
		}
		for _, j := range joints {
			x[j].Add(x[j], big.NewRat(1, 1))
		}
		return formed(f, q, x)
	}
	table := make([]list, n)
	for i := range n {
		for k := range n {
			x := of(i, k)
			x.Sub(x, of(i)).Sub(x, of(k))
			table[i] = append(table[i], x.Mul(x, big.NewRat(1, 2)))
		}
	}
	return table
}

// polynomial is that whose roots are how much a table that is its own turned one stretches (Faddeev, LeVerrier): numbers from the highest power down.
func polynomial(table []list) list {
	n := len(table)
	p := list{big.NewRat(1, 1)}
	last := make([]list, n)
	for i := range n {
		for range n {
			last[i] = append(last[i], new(big.Rat))
		}
	}
	for k := 1; k <= n; k++ {
		for i := range n {
			last[i][i].Add(last[i][i], p[k-1])
		}
		next := make([]list, n)
		trace := new(big.Rat)
		for i := range n {
			for c := range n {
				sum := new(big.Rat)
				for j := range n {
					if table[i][j].Sign() != 0 {
						sum.Add(sum, new(big.Rat).Mul(table[i][j], last[j][c]))
					}
				}
				next[i] = append(next[i], sum)
			}
			trace.Add(trace, next[i][i])
		}
		p = append(p, trace.Quo(trace, big.NewRat(int64(-k), 1)))
		last = next
	}
	return p
}

// changes is how often signs change from one number to the next that isn't 0; turned: every second number's sign the other way.
func changes(p list, turned bool) int {
	n, last := 0, 0
	for i, x := range p {
		sign := x.Sign()
		if turned && i%2 == 1 {
			sign = -sign
		}
		if sign == 0 {
			continue
		}
		if sign == -last {
			n++
		}
		last = sign
	}
	return n
}

// firm holds what Firm tells against the chapter. All roots of the polynomial are real, so its signs tell how many are above 0 and below (Descartes): as many squares are added and subtracted.
func firm(t *testing.T, f api.Frame, q []api.Q) string {
	t.Helper()
	even, plus, minus, g := cable.Firm(f, q)
	isEven := true
	for _, p := range pulled(f, q, nil, pairs(f.Joints)) {
		isEven = isEven && p[0].Sign() == 0 && p[1].Sign() == 0
	}
	p := polynomial(tableOf(f, q))
	got := fmt.Sprint(even, plus, minus)
	if want := fmt.Sprint(isEven, changes(p, false), changes(p, true)); got != want || g != (api.Fault{}) {
		t.Fatalf("%v %v: %s %v, want %s", f, q, got, g, want)
	}
	return got
}
