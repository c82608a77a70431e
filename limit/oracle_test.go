package limit_test

import (
	"math/big"
	"slices"
	"strings"
	"testing"

	"rafter/api"
	"rafter/limit"
)

// Answers are held against the chapter's words here, by the library's fractions. That a factor is the greatest needs no other search: a stress that is safe with it, and a motion that breaks by it, prove it from both sides.

func rat(t *testing.T, q api.Q) *big.Rat {
	t.Helper()
	x, ok := new(big.Rat).SetString(string(q))
	if !ok || x.RatString() != string(q) {
		t.Fatalf("%q isn't in lowest terms", q)
	}
	return x
}

func isDigits(s string) bool { return s != "" && strings.Trim(s, "0123456789") == "" }

// read reads what is handed in: what isn't written as a fraction counts as 0.
func read(q api.Q) *big.Rat {
	top, low, barred := strings.Cut(strings.TrimPrefix(string(q), "-"), "/")
	if !isDigits(top) || barred && (!isDigits(low) || strings.Trim(low, "0") == "") {
		return new(big.Rat)
	}
	x, _ := new(big.Rat).SetString(string(q))
	return x
}

// pair is X and Y.
type pair [2]*big.Rat

func none() pair { return pair{new(big.Rat), new(big.Rat)} }

func pairOf(s api.Spot) pair { return pair{read(s.X), read(s.Y)} }

func (p pair) less(o pair) pair {
	return pair{new(big.Rat).Sub(p[0], o[0]), new(big.Rat).Sub(p[1], o[1])}
}

func (p pair) times(o pair) *big.Rat {
	x, y := new(big.Rat).Mul(p[0], o[0]), new(big.Rat).Mul(p[1], o[1])
	return x.Add(x, y)
}

// add makes p what it is and o, by times, more.
func (p pair) add(by *big.Rat, o pair) {
	for k := range p {
		p[k].Add(p[k], new(big.Rat).Mul(by, o[k]))
	}
}

func wayOf(f api.Frame, b api.Bar) pair { return pairOf(f.Joints[b.B]).less(pairOf(f.Joints[b.A])) }

// isSafe is what P8.1 says of a stress that has as many bars and holds as f.
func isSafe(f api.Frame, l []api.Load, factor api.Q, s api.Stress) bool {
	sums := make([]pair, len(f.Joints))
	for i := range sums {
		sums[i] = none()
	}
	for _, x := range l {
		sums[x.Joint].add(read(factor), pairOf(x.Way))
	}
	for i, b := range f.Bars {
		t := read(s.Bars[i])
		if t.Cmp(read(b.Least)) < 0 || t.Cmp(read(b.Most)) > 0 {
			return false
		}
		sums[b.A].add(t, wayOf(f, b))
		sums[b.B].add(new(big.Rat).Neg(t), wayOf(f, b))
	}
	for i, h := range f.Holds {
		at := sums[h.Joint][h.Way-api.Along]
		at.Add(at, read(s.Holds[i]))
	}
	return !slices.ContainsFunc(sums, func(p pair) bool { return p[0].Sign() != 0 || p[1].Sign() != 0 })
}

// breaks is what P8.2 says of a motion that has as many as joints.
func breaks(f api.Frame, l []api.Load, motion []api.Spot) (*big.Rat, api.Fault) {
	for i, h := range f.Holds {
		if pairOf(motion[h.Joint])[h.Way-api.Along].Sign() != 0 {
			return nil, fault(api.ErrValue, len(f.Bars)+i)
		}
	}
	work, given := new(big.Rat), new(big.Rat)
	for _, x := range l {
		work.Add(work, pairOf(x.Way).times(pairOf(motion[x.Joint])))
	}
	if work.Sign() <= 0 {
		return nil, fault(api.ErrNone, 0)
	}
	for _, b := range f.Bars {
		e := wayOf(f, b).times(pairOf(motion[b.B]).less(pairOf(motion[b.A])))
		if e.Sign() > 0 {
			given.Add(given, e.Mul(e, read(b.Most)))
		} else {
			given.Add(given, e.Mul(e, read(b.Least)))
		}
	}
	return given.Quo(given, work), api.Fault{}
}

// isFree tells whether nothing is left of the loads where no hold is: by all else there is an end.
func isFree(f api.Frame, l []api.Load) bool {
	left := make([]pair, len(f.Joints))
	for i := range left {
		left[i] = none()
	}
	for _, x := range l {
		left[x.Joint].add(big.NewRat(1, 1), pairOf(x.Way))
	}
	for _, h := range f.Holds {
		left[h.Joint][h.Way-api.Along].SetInt64(0)
	}
	return !slices.ContainsFunc(left, func(p pair) bool { return p[0].Sign() != 0 || p[1].Sign() != 0 })
}

// carriedOrFree holds what Carries tells against the chapter, and what Safe and Breaks tell of that.
func carriedOrFree(t *testing.T, f api.Frame, l []api.Load) (api.Limit, api.Fault) {
	t.Helper()
	got, g := limit.Carries(f, l)
	if isFree(f, l) {
		if g != fault(api.ErrFree, 0) || got.Factor != "" || got.Stress.Bars != nil || got.Stress.Holds != nil || got.Motion != nil {
			t.Fatalf("%v %v: %v %v", f, l, got, g)
		}
		return got, g
	}
	if g != (api.Fault{}) || len(got.Stress.Bars) != len(f.Bars) || len(got.Stress.Holds) != len(f.Holds) || len(got.Motion) != len(f.Joints) {
		t.Fatalf("%v %v: %v %v", f, l, got, g)
	}
	factor := rat(t, got.Factor)
	for _, q := range slices.Concat(got.Stress.Bars, got.Stress.Holds) {
		rat(t, q)
	}
	for _, s := range got.Motion {
		rat(t, s.X)
		rat(t, s.Y)
	}
	if !isSafe(f, l, got.Factor, got.Stress) {
		t.Fatalf("%v %v: %v isn't safe", f, l, got)
	}
	if q, g := breaks(f, l, got.Motion); g != (api.Fault{}) || q.Cmp(factor) != 0 {
		t.Fatalf("%v %v: %v breaks by %v %v", f, l, got, q, g)
	}
	if ok, g := limit.Safe(f, l, got.Factor, got.Stress); !ok || g != (api.Fault{}) {
		t.Fatalf("%v %v: %v: Safe says %v %v", f, l, got, ok, g)
	}
	if q, g := limit.Breaks(f, l, got.Motion); q != got.Factor || g != (api.Fault{}) {
		t.Fatalf("%v %v: %v: Breaks says %v %v", f, l, got, q, g)
	}
	return got, g
}

// heldAgainst does the same where there is an end.
func heldAgainst(t *testing.T, f api.Frame, l []api.Load) api.Limit {
	t.Helper()
	got, g := carriedOrFree(t, f, l)
	if g != (api.Fault{}) {
		t.Fatalf("%v %v: %v", f, l, g)
	}
	return got
}
