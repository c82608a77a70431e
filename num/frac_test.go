package num

import (
	"math"
	"math/big"
	"math/rand"
	"strings"
	"testing"

	"rafter/api"
)

func TestTexts(t *testing.T) {
	for _, c := range []struct{ text, want api.Q }{
		{"0", "0"}, {"7", "7"}, {"-7", "-7"}, {"1/2", "1/2"}, {"-1/2", "-1/2"},
		{"6/4", "3/2"}, {"-6/4", "-3/2"}, {"4/2", "2"}, {"0/5", "0"}, {"-0", "0"}, {"-0/3", "0"},
		{"007", "7"}, {"-0014/0021", "-2/3"}, {"000", "0"}, {"0/1", "0"}, {"5/1", "5"}, {"5/0001", "5"},
		// divided by 0
		{"1/0", "0"}, {"-1/0", "0"}, {"0/0", "0"}, {"3/000", "0"},
		// no fractions
		{"", "0"}, {"-", "0"}, {"/", "0"}, {"-/", "0"}, {"1/", "0"}, {"/2", "0"}, {"-/2", "0"},
		{"+1", "0"}, {"--1", "0"}, {"1-", "0"}, {"1/-2", "0"}, {"1/+2", "0"}, {"1//2", "0"}, {"1/2/3", "0"},
		{" 1", "0"}, {"1 ", "0"}, {"- 1", "0"}, {"1 /2", "0"}, {"1/ 2", "0"}, {"1\n", "0"},
		{"1.5", "0"}, {"1e3", "0"}, {"0x10", "0"}, {"1_000", "0"}, {"a", "0"}, {"12a", "0"},
		{"\u0663", "0"}, {"\uff11", "0"}, {"1\x00", "0"}, {"\xff", "0"}, {"\u22121", "0"}, {"1\u20442", "0"},
		// at the ends of words and chunks
		{"9999999999999999999", "9999999999999999999"}, {"10000000000000000000", "10000000000000000000"},
		{"18446744073709551615", "18446744073709551615"}, {"18446744073709551616", "18446744073709551616"},
		{"18446744073709551616/36893488147419103232", "1/2"},
		{"-100000000000000000000000000000000000001/3", "-100000000000000000000000000000000000001/3"},
	} {
		if got := Of(c.text).Q(); got != c.want {
			t.Errorf("%q: %q, want %q", c.text, got, c.want)
		}
	}
}

func ratOf(q api.Q) *big.Rat {
	z, ok := new(big.Rat).SetString(string(q))
	if !ok {
		return new(big.Rat)
	}
	return z
}

func digits(r *rand.Rand, most int) string {
	var b strings.Builder
	b.WriteByte(byte('1' + r.Intn(9)))
	for range r.Intn(most) {
		b.WriteByte(byte('0' + r.Intn(10)))
	}
	return b.String()
}

func randomQ(r *rand.Rand, most int) api.Q {
	s := digits(r, most)
	if r.Intn(8) == 0 {
		s = "0"
	}
	if r.Intn(2) == 0 {
		s = "-" + s
	}
	if r.Intn(3) > 0 {
		s += "/" + digits(r, most)
	}
	return api.Q(s)
}

func isFrac(t *testing.T, what string, got Frac, want *big.Rat) {
	t.Helper()
	if string(got.Q()) != want.RatString() {
		t.Fatalf("%s: %s, want %s", what, got.Q(), want.RatString())
	}
	if !got.Equal(Of(got.Q())) {
		t.Fatalf("%s: %s has two forms", what, got.Q())
	}
}

func TestFracsAgainstBig(t *testing.T) {
	r := rand.New(rand.NewSource(3))
	for i := range 12000 {
		most := []int{1, 2, 8, 40, 150}[i%5]
		p, q := randomQ(r, most), randomQ(r, most)
		x, y, a, b := Of(p), Of(q), ratOf(p), ratOf(q)
		isFrac(t, "read", x, a)
		isFrac(t, "negative", x.Neg(), new(big.Rat).Neg(a))
		isFrac(t, "sum", x.Plus(y), new(big.Rat).Add(a, b))
		isFrac(t, "difference", x.Minus(y), new(big.Rat).Sub(a, b))
		isFrac(t, "product", x.Times(y), new(big.Rat).Mul(a, b))
		isFrac(t, "square", x.Squared(), new(big.Rat).Mul(a, a))
		if b.Sign() != 0 {
			isFrac(t, "quotient", x.Over(y), new(big.Rat).Quo(a, b))
		}
		if x.Equal(y) != (a.Cmp(b) == 0) || x.IsZero() != (a.Sign() == 0) || x.Sign() != a.Sign() {
			t.Fatalf("%s and %s: equal %v, zero %v, sign %d", p, q, x.Equal(y), x.IsZero(), x.Sign())
		}
		if x.Compare(y) != a.Cmp(b) || x.Compare(x) != 0 {
			t.Fatalf("%s and %s: compared %d", p, q, x.Compare(y))
		}
		if z := x.Plus(y); x.Compare(z) != -b.Sign() || z.Compare(x) != b.Sign() {
			t.Fatalf("%s, and %s more: compared %d", p, q, x.Compare(z))
		}
		isFrac(t, "less itself", x.Minus(x), new(big.Rat))
	}
}

func TestWhole(t *testing.T) {
	for _, n := range []int{0, 1, -1, 2, 7, -24, math.MaxInt, math.MinInt, math.MinInt + 1} {
		isFrac(t, "whole", Whole(n), new(big.Rat).SetInt64(int64(n)))
	}
}

func TestFloor(t *testing.T) {
	for _, c := range []struct{ q, want api.Q }{
		{"0", "0"}, {"7", "7"}, {"-7", "-7"}, {"1/2", "0"}, {"-1/2", "-1"}, {"7/2", "3"}, {"-7/2", "-4"}, {"-1/99", "-1"}, {"98/99", "0"},
		{"-18446744073709551615/2", "-9223372036854775808"}, {"36893488147419103231/2", "18446744073709551615"}, {"-36893488147419103231/2", "-18446744073709551616"},
	} {
		isFrac(t, "floor", Of(c.q).Floor(), ratOf(c.want))
	}
	r := rand.New(rand.NewSource(5))
	for i := range 3000 {
		q := randomQ(r, []int{1, 2, 8, 40, 150}[i%5])
		a := ratOf(q)
		low := new(big.Int).Div(a.Num(), a.Denom()) // of what is above 0 below the bar, this is the floor
		isFrac(t, "floor", Of(q).Floor(), new(big.Rat).SetInt(low))
		isFrac(t, "what it was", Of(q), a)
	}
}

func TestOverNothing(t *testing.T) {
	for _, q := range []api.Q{"0", "3", "-1/7"} {
		if got := Of(q).Over(Frac{}).Q(); got != "0" {
			t.Errorf("%s over 0: %s", q, got)
		}
	}
}

func TestLongFractions(t *testing.T) {
	r := rand.New(rand.NewSource(4))
	for _, n := range []int{1000, 5000, 20000} {
		p := api.Q("-" + digits(r, 1) + strings.Repeat("7", n) + "/" + digits(r, n))
		q := api.Q(digits(r, n) + "/" + digits(r, 1) + strings.Repeat("0", n))
		x, y, a, b := Of(p), Of(q), ratOf(p), ratOf(q)
		isFrac(t, "long", x, a)
		isFrac(t, "long sum", x.Plus(y), new(big.Rat).Add(a, b))
		isFrac(t, "long product", x.Times(y), new(big.Rat).Mul(a, b))
	}
}
