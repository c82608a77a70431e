package arch_test

import (
	"fmt"
	"math/big"
	"regexp"
	"testing"

	"rafter/api"
)

// Answers are held against the chapter's words here, by the library's fractions.

var written = regexp.MustCompile(`^-?[0-9]+(/[0-9]*[1-9][0-9]*)?$`)

// read counts what isn't a fraction as 0.
func read(q api.Q) *big.Rat {
	if !written.MatchString(string(q)) {
		return new(big.Rat)
	}
	x, _ := new(big.Rat).SetString(string(q))
	return x
}

// rat is of what is answered.
func rat(t *testing.T, q api.Q) *big.Rat {
	t.Helper()
	x := read(q)
	if x.RatString() != string(q) {
		t.Fatalf("%q isn't in lowest terms", q)
	}
	return x
}

func add(a, b *big.Rat) *big.Rat { return new(big.Rat).Add(a, b) }

func less(a, b *big.Rat) *big.Rat { return new(big.Rat).Sub(a, b) }

func times(a, b *big.Rat) *big.Rat { return new(big.Rat).Mul(a, b) }

func over(a, b *big.Rat) *big.Rat { return new(big.Rat).Quo(a, b) }

func told(x *big.Rat) api.Q { return api.Q(x.RatString()) }

// noLine tells why these aren't the heights of a line, by the chapter's words; "" if they are, and are written as answers are.
func noLine(l []api.Stone, slack api.Q, y []api.Q) string {
	if len(y) != len(l) {
		return "not as many"
	}
	for i, s := range l {
		if read(y[i]).RatString() != string(y[i]) {
			return fmt.Sprint(i, " isn't in lowest terms")
		}
		if read(y[i]).Cmp(read(s.Low)) < 0 || read(y[i]).Cmp(read(s.High)) > 0 {
			return fmt.Sprint(i, " isn't between")
		}
	}
	slope := func(i int) *big.Rat {
		return over(less(read(y[i+1]), read(y[i])), less(read(l[i+1].At), read(l[i].At)))
	}
	for i := 1; i < len(l)-1; i++ {
		if less(slope(i-1), slope(i)).Cmp(times(read(slack), read(l[i].Weight))) != 0 {
			return fmt.Sprint("it doesn't fall so at ", i)
		}
	}
	return ""
}

// plane is all of a slack, a height at 0 and a slope there such that n of them comes to by; what fits is not above it.
type plane struct {
	n  [3]*big.Rat
	by *big.Rat
}

// planes bound what fits: the slack isn't below 0, and at each stone the height is neither above High nor below Low. It falls, against the straight line, by the slack times each weight times how far that stone is behind.
func planes(l []api.Stone) []plane {
	all := []plane{{[3]*big.Rat{big.NewRat(-1, 1), new(big.Rat), new(big.Rat)}, new(big.Rat)}}
	for i, s := range l {
		fall := new(big.Rat)
		for k := 1; k < i; k++ {
			fall = add(fall, times(read(l[k].Weight), less(read(s.At), read(l[k].At))))
		}
		minus := func(x *big.Rat) *big.Rat { return new(big.Rat).Neg(x) }
		one := big.NewRat(1, 1)
		all = append(all, plane{[3]*big.Rat{minus(fall), one, read(s.At)}, read(s.High)})
		all = append(all, plane{[3]*big.Rat{fall, minus(one), minus(read(s.At))}, minus(read(s.Low))})
	}
	return all
}

func determinant(a, b, c [3]*big.Rat) *big.Rat {
	minor := func(i, j int) *big.Rat { return less(times(b[i], c[j]), times(b[j], c[i])) }
	return add(less(times(a[0], minor(1, 2)), times(a[1], minor(0, 2))), times(a[2], minor(0, 1)))
}

// meeting is where three planes meet, if that is one point.
func meeting(p [3]plane) (at [3]*big.Rat, ok bool) {
	whole := determinant(p[0].n, p[1].n, p[2].n)
	if whole.Sign() == 0 {
		return at, false
	}
	for i := range at {
		q := p
		for k := range q {
			q[k].n[i] = p[k].by
		}
		at[i] = over(determinant(q[0].n, q[1].n, q[2].n), whole)
	}
	return at, true
}

func within(all []plane, at [3]*big.Rat) bool {
	for _, p := range all {
		sum := new(big.Rat)
		for i := range at {
			sum = add(sum, times(p.n[i], at[i]))
		}
		if sum.Cmp(p.by) > 0 {
			return false
		}
	}
	return true
}

// slacksByCorners goes through all corners of what fits, in space: the least slack is at one of them, and so is the greatest, if there is one. It tells as toldSlacks does.
func slacksByCorners(l []api.Stone) string {
	all := planes(l)
	var least, most *big.Rat
	for k := range all {
		for j := range k {
			for i := range j {
				at, ok := meeting([3]plane{all[i], all[j], all[k]})
				if !ok || !within(all, at) {
					continue
				}
				if least == nil || at[0].Cmp(least) < 0 {
					least = at[0]
				}
				if most == nil || at[0].Cmp(most) > 0 {
					most = at[0]
				}
			}
		}
	}
	if least == nil {
		return "none"
	}
	for _, s := range l[1 : len(l)-1] {
		if read(s.Weight).Sign() > 0 {
			return least.RatString() + " " + most.RatString()
		}
	}
	return least.RatString() + " on"
}
