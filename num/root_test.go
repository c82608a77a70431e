package num

import (
	"math/big"
	"math/bits"
	"math/rand"
	"strings"
	"testing"

	"rafter/api"
)

// isRoot holds what Root tells against its words, by squares.
func isRoot(t *testing.T, q api.Q) {
	t.Helper()
	whole, by, more := Of(q).Root()
	if n := bits.Len64(whole); n < 63 {
		t.Fatalf("%s: only %d bits", q, n)
	}
	square := func(w *big.Int) *big.Rat {
		up := new(big.Rat).SetInt(new(big.Int).Lsh(big.NewInt(1), uint(2*max(by, -by))))
		if by < 0 {
			up.Inv(up)
		}
		return up.Mul(up, new(big.Rat).SetInt(w.Mul(w, w)))
	}
	low := new(big.Int).SetUint64(whole)
	high := new(big.Int).Add(low, big.NewInt(1))
	x := ratOf(q)
	if c := x.Cmp(square(low)); c < 0 || more != (c > 0) {
		t.Fatalf("%s: %d times 2 to the power of %d, more %v: its square is %d", q, whole, by, more, c)
	}
	if x.Cmp(square(high)) >= 0 {
		t.Fatalf("%s: %d times 2 to the power of %d is too small", q, whole, by)
	}
}

func TestRoots(t *testing.T) {
	noughts := strings.Repeat("0", 5000)
	for _, q := range []api.Q{"1", "2", "3", "4", "1/2", "1/3", "1/4", "9/16", "25/49", "18446744073709551615", "18446744073709551616",
		"340282366920938463463374607431768211455", "340282366920938463463374607431768211456", "340282366920938463426481119284349108225",
		"1/340282366920938463463374607431768211455", "340282366920938463463374607431768211455/340282366920938463463374607431768211456",
		api.Q("1" + noughts), api.Q("1/1" + noughts), api.Q("1" + noughts + "/7"), api.Q("1" + noughts + "/3" + noughts[1:] + "1")} {
		isRoot(t, q)
	}
	r := rand.New(rand.NewSource(5))
	for i := range 4000 {
		x := Of(randomQ(r, []int{1, 2, 8, 40, 150}[i%5]))
		if x.IsZero() {
			continue
		}
		isRoot(t, x.Squared().Q())
		if x.Sign() > 0 {
			isRoot(t, x.Q())
		}
	}
}

func TestSquared(t *testing.T) {
	for _, c := range []struct{ x, want api.Q }{{"0", "0"}, {"1", "1"}, {"-1", "1"}, {"3", "9"}, {"-2/3", "4/9"}, {"1/7", "1/49"}, {"18446744073709551616", "340282366920938463463374607431768211456"}} {
		if got := Of(c.x).Squared(); got.Q() != c.want || !got.Equal(Of(c.want)) {
			t.Errorf("%s squared: %s, want %s", c.x, got.Q(), c.want)
		}
	}
}

func TestRaised(t *testing.T) {
	r := rand.New(rand.NewSource(6))
	for range 3000 {
		x, by := randomNat(r, r.Intn(5)), r.Intn(300)-50
		isNat(t, "raised", raised(x, by), new(big.Int).Lsh(bigOf(x), uint(max(by, 0))))
		if x.bits() != bigOf(x).BitLen() {
			t.Fatalf("%v has %d bits", bigOf(x), x.bits())
		}
	}
}
