package num

import (
	"cmp"
	"slices"
	"strings"

	"rafter/api"
)

// Frac is a fraction in lowest terms, as a value: nothing changes one. The zero value is 0.
type Frac struct {
	minus bool // never of 0
	top   nat
	low   nat // what is below the bar; nil: 1
}

// Of reads a fraction. What isn't written as one, and what is divided by 0, is 0.
func Of(q api.Q) Frac {
	s, minus := strings.CutPrefix(string(q), "-")
	top, low, barred := strings.Cut(s, "/")
	if !isDigits(top) || barred && !isDigits(low) {
		return Frac{}
	}
	if !barred {
		return built(minus, parseNat(top), nil)
	}
	return reduced(minus, parseNat(top), parseNat(low))
}

// Whole is n as a fraction.
func Whole(n int) Frac {
	if n < 0 {
		return built(true, natOfWord(-uint64(n)), nil)
	}
	return built(false, natOfWord(uint64(n)), nil)
}

func reduced(minus bool, top, low nat) Frac {
	if len(low) == 0 {
		return Frac{}
	}
	g := gcd(top, low)
	return built(minus, quotientOf(top, g), quotientOf(low, g))
}

// built gives what is in lowest terms its one form.
func built(minus bool, top, low nat) Frac {
	if len(top) == 0 {
		return Frac{}
	}
	if low.isOne() {
		low = nil
	}
	return Frac{minus: minus, top: top, low: low}
}

// Q writes the fraction as all answers are written.
func (x Frac) Q() api.Q {
	s := x.top.text()
	if x.minus {
		s = "-" + s
	}
	if x.low != nil {
		s += "/" + x.low.text()
	}
	return api.Q(s)
}

func (x Frac) under() nat {
	if x.low == nil {
		return nat{1}
	}
	return x.low
}

// IsZero tells whether x is 0.
func (x Frac) IsZero() bool { return len(x.top) == 0 }

// Sign is -1, 0 or 1: x is below 0, 0, or above.
func (x Frac) Sign() int {
	if x.IsZero() {
		return 0
	}
	if x.minus {
		return -1
	}
	return 1
}

// Equal leans on there being one form of each fraction.
func (x Frac) Equal(y Frac) bool {
	return x.minus == y.minus && slices.Equal(x.top, y.top) && slices.Equal(x.low, y.low)
}

// Compare is -1, 0 or 1: x is below y, y, or above. It takes no difference, which would cost a gcd.
func (x Frac) Compare(y Frac) int {
	if x.Sign() != y.Sign() {
		return cmp.Compare(x.Sign(), y.Sign())
	}
	c := compareNats(multiplyNats(x.top, y.under()), multiplyNats(y.top, x.under()))
	if x.minus {
		return -c
	}
	return c
}

// Neg is 0 less x.
func (x Frac) Neg() Frac { return built(!x.minus, x.top, x.low) }

// Plus is x and y, added. What both have in common below the bar is taken out first: only that can be shared by what comes of it, so that no great gcd is needed where one of them is short.
func (x Frac) Plus(y Frac) Frac {
	a, b := x.under(), y.under()
	g := gcd(a, b)
	partA, partB := quotientOf(a, g), quotientOf(b, g)
	minus, top := addSigned(x.minus, multiplyNats(x.top, partB), y.minus, multiplyNats(y.top, partA))
	if len(top) == 0 {
		return Frac{}
	}
	h := gcd(top, g)
	return built(minus, quotientOf(top, h), multiplyNats(partA, quotientOf(b, h)))
}

// addSigned adds what is below 0 (if its minus says so) or not; of 0 the minus that it answers says nothing.
func addSigned(minusX bool, x nat, minusY bool, y nat) (minus bool, sum nat) {
	if minusX == minusY {
		return minusX, addNats(x, y)
	}
	if compareNats(x, y) < 0 {
		return minusY, subtractNats(y, x)
	}
	return minusX, subtractNats(x, y)
}

// Minus is x less y.
func (x Frac) Minus(y Frac) Frac { return x.Plus(y.Neg()) }

// Times is x times y. Each top is held against the other's low ahead of the product: they are shorter there.
func (x Frac) Times(y Frac) Frac {
	if x.IsZero() || y.IsZero() {
		return Frac{}
	}
	a, b := x.under(), y.under()
	g, h := gcd(x.top, b), gcd(y.top, a)
	top := multiplyNats(quotientOf(x.top, g), quotientOf(y.top, h))
	low := multiplyNats(quotientOf(a, h), quotientOf(b, g))
	return built(x.minus != y.minus, top, low)
}

// Squared is x times x. What is in lowest terms is so when squared, too: no gcd is needed.
func (x Frac) Squared() Frac {
	return built(false, multiplyNats(x.top, x.top), multiplyNats(x.low, x.low))
}

// Over is x over y; over 0 it is 0, as everywhere.
func (x Frac) Over(y Frac) Frac {
	if y.IsZero() {
		return Frac{}
	}
	return x.Times(built(y.minus, y.under(), y.top))
}

// Floor is the greatest whole number that isn't above x.
func (x Frac) Floor() Frac {
	whole, rest := divideNats(x.top, x.under())
	if x.minus && len(rest) > 0 {
		whole = addNats(whole, nat{1})
	}
	return built(x.minus, whole, nil)
}
