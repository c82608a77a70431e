package num

import (
	"math/big"
	"math/rand"
	"slices"
	"testing"
)

// randomNat mixes plain words with those at the ends of their range, at which carries and guesses go wrong most easily.
func randomNat(r *rand.Rand, words int) nat {
	x := make(nat, words)
	for i := range x {
		switch r.Intn(6) {
		case 0:
			x[i] = 0
		case 1:
			x[i] = ^uint64(0)
		case 2:
			x[i] = 1 << 63
		case 3:
			x[i] = uint64(r.Intn(3))
		default:
			x[i] = r.Uint64()
		}
	}
	return trim(x)
}

func bigOf(x nat) *big.Int {
	z := new(big.Int)
	for i := len(x) - 1; i >= 0; i-- {
		z.Lsh(z, wordBits).Or(z, new(big.Int).SetUint64(x[i]))
	}
	return z
}

func isNat(t *testing.T, what string, got nat, want *big.Int) {
	t.Helper()
	if len(got) > 0 && got[len(got)-1] == 0 {
		t.Fatalf("%s: a nought at the high end of %v", what, got)
	}
	if bigOf(got).Cmp(want) != 0 {
		t.Fatalf("%s: %v, want %v", what, bigOf(got), want)
	}
}

func TestNatsAgainstBig(t *testing.T) {
	r := rand.New(rand.NewSource(1))
	for range 20000 {
		x, y := randomNat(r, r.Intn(9)), randomNat(r, r.Intn(7))
		keptX, keptY := slices.Clone(x), slices.Clone(y)
		a, b := bigOf(x), bigOf(y)
		if got, want := compareNats(x, y), a.Cmp(b); got != want {
			t.Fatalf("compare %v, %v: %d, want %d", a, b, got, want)
		}
		isNat(t, "sum", addNats(x, y), new(big.Int).Add(a, b))
		isNat(t, "product", multiplyNats(x, y), new(big.Int).Mul(a, b))
		isNat(t, "gcd", gcd(x, y), new(big.Int).GCD(nil, nil, a, b))
		if a.Cmp(b) >= 0 {
			isNat(t, "difference", subtractNats(x, y), new(big.Int).Sub(a, b))
		}
		if len(y) > 0 {
			q, rest := divideNats(x, y)
			wantQ, wantR := new(big.Int).QuoRem(a, b, new(big.Int))
			isNat(t, "quotient", q, wantQ)
			isNat(t, "rest", rest, wantR)
		}
		if !slices.Equal(x, keptX) || !slices.Equal(y, keptY) {
			t.Fatal("an argument was changed")
		}
	}
}

func TestDivideWhereGuessesAreTooGreat(t *testing.T) {
	full := ^uint64(0)
	l := []nat{
		{0, 0, 1 << 63}, {1, 0, 1 << 63}, {full, full, 1 << 63}, {0, full - 1, full}, {full, 0, full},
		{0, 0, 0, 1 << 63}, {3, 0, 1 << 63, 1<<63 - 1}, {0, 0, 1 << 63, 1<<63 - 1}, {full, full, full, full - 1, full},
		{0, 1}, {full, 1}, {1, 0, 1}, {5}, {full},
	}
	for _, x := range l {
		for _, y := range l {
			for _, z := range l {
				sum := addNats(multiplyNats(x, y), z)
				q, rest := divideNats(sum, y)
				wantQ, wantR := new(big.Int).QuoRem(bigOf(sum), bigOf(y), new(big.Int))
				isNat(t, "quotient", q, wantQ)
				isNat(t, "rest", rest, wantR)
			}
		}
	}
}

func TestGcdOfWhatSharesMuch(t *testing.T) {
	r := rand.New(rand.NewSource(2))
	for range 3000 {
		shared := randomNat(r, r.Intn(12))
		x, y := multiplyNats(shared, randomNat(r, r.Intn(20))), multiplyNats(shared, randomNat(r, r.Intn(20)))
		isNat(t, "gcd", gcd(x, y), new(big.Int).GCD(nil, nil, bigOf(x), bigOf(y)))
	}
}

// TestGcdOfSlowPairs: of neighbours in Fibonacci's row Euclid's steps are the most and the smallest.
func TestGcdOfSlowPairs(t *testing.T) {
	x, y := nat{1}, nat{1}
	for range 1500 {
		x, y = addNats(x, y), x
		if !gcd(x, y).isOne() {
			t.Fatalf("gcd of %s and %s: %s", x.text(), y.text(), gcd(x, y).text())
		}
	}
}
