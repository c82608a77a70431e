package swing_test

import (
	"math/big"
	"slices"
	"strings"
	"testing"

	"rafter/api"
	"rafter/swing"
)

// Answers are held against the chapter's words here, by the library's fractions. How stiff and how heavy a frame is along a motion is told by these words; how often the paces squared are below a number by the signs of a polynomial, all of whose roots they are.

func isDigits(s string) bool { return s != "" && strings.Trim(s, "0123456789") == "" }

// read reads what is handed in: what isn't written as a fraction counts as 0.
func read(q api.Q) *big.Rat {
	top, low, barred := strings.Cut(strings.TrimPrefix(string(q), "-"), "/")
	if !isDigits(top) || barred && (!isDigits(low) || strings.Trim(low, "0") == "") {
		return new(big.Rat)
	}
	x := new(big.Rat).SetInt(whole(top))
	if barred {
		x.Quo(x, new(big.Rat).SetInt(whole(low)))
	}
	if q[0] == '-' {
		x.Neg(x)
	}
	return x
}

// whole reads digits, noughts ahead of them or not.
func whole(digits string) *big.Int {
	x, _ := new(big.Int).SetString(digits, 10)
	return x
}

func told(x *big.Rat) api.Q { return api.Q(x.RatString()) }

// rat reads an answer.
func rat(t *testing.T, q api.Q) *big.Rat {
	t.Helper()
	x, ok := new(big.Rat).SetString(string(q))
	if !ok || x.RatString() != string(q) {
		t.Fatalf("%q isn't in lowest terms", q)
	}
	return x
}

type list []*big.Rat

func rats(l []api.Q) list {
	var x list
	for _, q := range l {
		x = append(x, read(q))
	}
	return x
}

func noughts(n int) list {
	l := make(list, n)
	for i := range l {
		l[i] = new(big.Rat)
	}
	return l
}

func isHeld(f api.Frame, joint, way int) bool {
	return slices.ContainsFunc(f.Holds, func(h api.Hold) bool { return h.Joint == joint && h.Way == way })
}

// freeWays is the places in a motion (X and Y of each joint) that no hold keeps at 0.
func freeWays(f api.Frame) []int {
	var l []int
	for joint := range f.Joints {
		for way := api.Along; way <= api.Up; way++ {
			if !isHeld(f, joint, way) {
				l = append(l, 2*joint+way-api.Along)
			}
		}
	}
	return l
}

// stiff is how stiff f is along a motion.
func stiff(f api.Frame, m list) *big.Rat {
	sum := new(big.Rat)
	for _, b := range f.Bars {
		from, to := flat(f.Joints[b.A:b.A+1]), flat(f.Joints[b.B:b.B+1])
		long := new(big.Rat)
		for way := range 2 {
			apart := new(big.Rat).Sub(to[way], from[way])
			more := new(big.Rat).Sub(m[2*b.B+way], m[2*b.A+way])
			long.Add(long, more.Mul(more, apart))
		}
		sum.Add(sum, long.Mul(long, long).Mul(long, read(b.C)))
	}
	return sum
}

// heavy is how heavy it is.
func heavy(masses []api.Q, m list) *big.Rat {
	sum := new(big.Rat)
	for i, x := range m {
		square := new(big.Rat).Mul(x, x)
		sum.Add(sum, square.Mul(square, read(masses[i/2])))
	}
	return sum
}

// tableOf has, of each free way, by how much stiffness changes at first if that is changed, over how heaviness does: halves of both, of which what belongs to two ways is half of what both make, less what each does alone.
func tableOf(f api.Frame, masses []api.Q) []list {
	free := freeWays(f)
	of := func(ways ...int) list {
		m := noughts(2 * len(f.Joints))
		for _, w := range ways {
			m[w].Add(m[w], big.NewRat(1, 1))
		}
		return m
	}
	table := make([]list, len(free))
	for i, a := range free {
		for _, b := range free {
			x := stiff(f, of(a, b))
			x.Sub(x, stiff(f, of(a))).Sub(x, stiff(f, of(b)))
			x.Mul(x, big.NewRat(1, 2))
			table[i] = append(table[i], x.Quo(x, heavy(masses, of(a))))
		}
	}
	return table
}

// polynomial has as its roots what a table multiplies something by (Faddeev, LeVerrier): numbers from the highest power down.
func polynomial(table []list) list {
	n := len(table)
	p := list{big.NewRat(1, 1)}
	last := make([]list, n)
	for i := range n {
		last[i] = noughts(n)
	}
	for k := 1; k <= n; k++ {
		next := make([]list, n)
		trace := new(big.Rat)
		for i := range n {
			last[i][i].Add(last[i][i], p[k-1])
			next[i] = noughts(n)
		}
		for i := range n {
			for j, by := range table[i] {
				for c := range n {
					if by.Sign() != 0 && last[j][c].Sign() != 0 {
						next[i][c].Add(next[i][c], new(big.Rat).Mul(by, last[j][c]))
					}
				}
			}
			trace.Add(trace, next[i][i])
		}
		p = append(p, trace.Quo(trace, big.NewRat(int64(-k), 1)))
		last = next
	}
	return p
}

// below is how many roots of p are below w: w less x, for x, makes those above 0 of them. All are real, so as often does the sign change from one of its numbers to the next (Descartes).
func below(p list, w *big.Rat) int {
	n := len(p) - 1
	l := make(list, n+1) // from the constant number up
	for i, x := range p {
		l[n-i] = new(big.Rat).Set(x)
	}
	for low := range n {
		for k := n - 1; k >= low; k-- {
			l[k].Add(l[k], new(big.Rat).Mul(w, l[k+1]))
		}
	}
	changes, last := 0, 0
	for k, x := range l {
		sign := x.Sign()
		if k%2 == 1 {
			sign = -sign
		}
		if sign == 0 {
			continue
		}
		if sign == -last {
			changes++
		}
		last = sign
	}
	return changes
}

// heldAgainst holds what Below tells of each of some numbers against the chapter, and answers what is told of them.
func heldAgainst(t *testing.T, f api.Frame, masses []api.Q, l list) []int {
	t.Helper()
	p := polynomial(tableOf(f, masses))
	var counts []int
	for _, w := range l {
		got, g := swing.Below(f, masses, told(w))
		if want := below(p, w); got != want || g != (api.Fault{}) {
			t.Fatalf("%v %v: below %v: %d %v, want %d", f, masses, w, got, g, want)
		}
		counts = append(counts, got)
	}
	return counts
}

// part is 2 to the power of - digits.
func part(digits int) *big.Rat {
	return new(big.Rat).SetFrac(big.NewInt(1), new(big.Int).Lsh(big.NewInt(1), uint(digits)))
}

// lowest holds what Lowest tells against the chapter, and against Below: it is such a multiple, nothing is below it, and something is below the next one.
func lowest(t *testing.T, f api.Frame, masses []api.Q, digits int) *big.Rat {
	t.Helper()
	q, g := swing.Lowest(f, masses, digits)
	if len(freeWays(f)) == 0 {
		if q != "" || g != fault(api.ErrNone, 0) {
			t.Fatalf("%v %v, %d digits: %q %v", f, masses, digits, q, g)
		}
		return nil
	}
	if g != (api.Fault{}) {
		t.Fatalf("%v %v, %d digits: %q %v", f, masses, digits, q, g)
	}
	least := rat(t, q)
	if x := new(big.Rat).Quo(least, part(digits)); !x.IsInt() || x.Sign() < 0 {
		t.Fatalf("%v %v, %d digits: %s is no such multiple", f, masses, digits, q)
	}
	next := new(big.Rat).Add(least, part(digits))
	if l := heldAgainst(t, f, masses, list{least, next}); l[0] != 0 || l[1] == 0 {
		t.Fatalf("%v %v, %d digits: %s: %d are below it, %d below the next", f, masses, digits, q, l[0], l[1])
	}
	return least
}

// flat is X and Y of each joint.
func flat(m []api.Spot) list {
	var l list
	for _, s := range m {
		l = append(l, read(s.X), read(s.Y))
	}
	return l
}

// quotient holds what Quotient tells of a motion that moves something, and nothing that is held, against the chapter.
func quotient(t *testing.T, f api.Frame, masses []api.Q, m []api.Spot) *big.Rat {
	t.Helper()
	q, g := swing.Quotient(f, masses, m)
	if g != (api.Fault{}) {
		t.Fatalf("%v %v: %v: %q %v", f, masses, m, q, g)
	}
	got := rat(t, q)
	if want := new(big.Rat).Quo(stiff(f, flat(m)), heavy(masses, flat(m))); got.Cmp(want) != 0 {
		t.Fatalf("%v %v: %v: %v, want %v", f, masses, m, got, want)
	}
	return got
}
