package near_test

import (
	"math"
	"math/big"
	"slices"
	"strings"
	"testing"

	"rafter/api"
)

// Here are the places at which one float ends and the next one begins: halfway between both, and at both ends of what floats reach.

func text(x *big.Rat) api.Q { return api.Q(x.RatString()) }

func whole(n int64) *big.Rat { return big.NewRat(n, 1) }

// power is 2 to the power of n.
func power(n int) *big.Rat {
	x := new(big.Rat).SetInt(new(big.Int).Lsh(big.NewInt(1), uint(max(n, -n))))
	if n < 0 {
		x.Inv(x)
	}
	return x
}

func plus(x, y *big.Rat) *big.Rat { return new(big.Rat).Add(x, y) }

func minus(x, y *big.Rat) *big.Rat { return new(big.Rat).Sub(x, y) }

func times(x, y *big.Rat) *big.Rat { return new(big.Rat).Mul(x, y) }

func over(x, y *big.Rat) *big.Rat { return new(big.Rat).Quo(x, y) }

// ratOf is what a float is; above all of them it is where the next one would be, if there were one.
func ratOf(f float64) *big.Rat {
	if math.IsInf(f, 1) {
		return power(1024)
	}
	return new(big.Rat).SetFloat64(f)
}

// slanted is bars of one length, which no one of them has along X or Y alone, but for the first one.
func slanted(long *big.Rat) api.Frame {
	var f api.Frame
	f.Joints = append(f.Joints, spot("0", "0"))
	for i, way := range [][3]int64{{1, 0, 1}, {3, 4, 5}, {-12, 5, 13}, {0, -1, 1}, {8, 15, -17}} {
		part := over(long, whole(way[2]))
		f.Joints = append(f.Joints, spot(text(times(part, whole(way[0]))), text(times(part, whole(way[1])))))
		f.Bars = append(f.Bars, api.Bar{A: 0, B: i + 1, C: "1"})
	}
	return f
}

// told holds both calls, of bars of that length, against the float that is wanted: as a length, as a pull, as a push, and where the stress makes up for another length.
func told(t *testing.T, what string, long *big.Rat, want float64) {
	t.Helper()
	f := slanted(long)
	all, negative := slices.Repeat([]float64{want}, len(f.Bars)), slices.Repeat([]float64{-want}, len(f.Bars))
	isLong(t, what, f, all...)
	isPulled(t, what+", pulled", f, slices.Repeat([]api.Q{"1"}, len(f.Bars)), all...)
	isPulled(t, what+", pushed", f, slices.Repeat([]api.Q{"-1"}, len(f.Bars)), negative...)
	stress := api.Q(text(over(long, whole(7))))
	isPulled(t, what+", by a stress", slanted(whole(7)), slices.Repeat([]api.Q{stress}, len(f.Bars)), all...)
	isPulled(t, what+", by a stress below 0", slanted(whole(-7)), slices.Repeat([]api.Q{"-" + stress}, len(f.Bars)), negative...)
}

// hair is less than any difference that floats of this size can tell.
func hair(x *big.Rat) *big.Rat { return times(x, power(-3000)) }

// atHalf tells what is halfway between low and the next float above it, and what is a hair below and above that.
func atHalf(t *testing.T, what string, low float64) {
	t.Helper()
	high := math.Nextafter(low, math.Inf(1))
	even := low
	if math.Float64bits(low)&1 == 1 {
		even = high
	}
	half := over(plus(ratOf(low), ratOf(high)), whole(2))
	told(t, what+", half", half, even)
	told(t, what+", below half", minus(half, hair(half)), low)
	told(t, what+", above half", plus(half, hair(half)), high)
	if low > 0 {
		told(t, what+", itself", ratOf(low), low)
	}
	told(t, what+", a hair above", plus(ratOf(low), hair(half)), low)
	if high < math.Inf(1) {
		told(t, what+", a hair below", minus(ratOf(high), hair(half)), high)
	}
}

func TestHalves(t *testing.T) {
	below := func(x float64) float64 { return math.Nextafter(x, 0) }
	above := func(x float64) float64 { return math.Nextafter(x, math.Inf(1)) }
	const normal, least, greatest = 0x1p-1022, math.SmallestNonzeroFloat64, math.MaxFloat64
	for _, c := range []struct {
		what string
		low  float64
	}{
		{"1", 1}, {"above 1", above(1)}, {"below 1", below(1)}, {"farther below 1", below(below(1))},
		{"whole floats", 1 << 53}, {"the next one", 1<<53 + 2}, {"the last one with halves", 1<<53 - 1}, {"with halves", 1<<52 + 1},
		{"a third", 1. / 3}, {"above a third", above(1. / 3)}, {"the root of 2", math.Sqrt2}, {"below the root of 2", below(math.Sqrt2)},
		{"great", 0x1.23456789abcdep1000}, {"great and odd", 0x1.23456789abcdfp1001},
		{"small", 0x1.23456789abcdep-1000}, {"small and odd", 0x1.23456789abcdfp-1001},
		{"the greatest", greatest}, {"below the greatest", below(greatest)},
		{"0", 0}, {"the least", least}, {"twice the least", 2 * least}, {"three times the least", 3 * least},
		{"of few bits", 0x1p-1060}, {"of few bits and odd", 0x1p-1060 + least},
		{"the least of all bits", normal}, {"the next one of all bits", above(normal)}, {"the one below all bits", below(normal)}, {"two below", below(below(normal))},
	} {
		atHalf(t, c.what, c.low)
	}
}

// A root that is no fraction can lie as near to half as one likes: X alone is a hair below half, or half, and Y makes up for the hair, or doesn't.
func TestRootsNearHalves(t *testing.T) {
	half := plus(power(53), whole(1))
	for _, c := range []struct {
		what string
		x, y *big.Rat
		want float64
	}{
		{"not made up for", minus(half, power(-2000)), power(-1000), 1 << 53},
		{"made up for", minus(half, power(-2000)), power(-970), 1<<53 + 2},
		{"half and more", half, power(-5000), 1<<53 + 2},
		{"half, but 0", half, whole(0), 1 << 53},
		{"a float and more", plus(half, whole(1)), power(-5000), 1<<53 + 2},
		{"the next half and more", plus(half, whole(2)), power(-5000), 1<<53 + 4},
		{"the next half, but 0", plus(half, whole(2)), whole(0), 1<<53 + 4},
		{"the next half, not made up for", minus(plus(half, whole(2)), power(-2000)), power(-1000), 1<<53 + 2},
	} {
		f := api.Frame{Joints: []api.Spot{spot("0", text(c.y)), spot(text(c.x), "0")}, Bars: []api.Bar{{A: 0, B: 1, C: "1"}, {A: 1, B: 0, C: "1"}}}
		isLong(t, c.what, f, c.want, c.want)
		isPulled(t, c.what, f, []api.Q{"1", "-1"}, c.want, -c.want)
	}
}

// Bars that are longer than any float, or shorter: their lengths are infinite, or 0, but their pulls need not be.
func TestVeryLongAndVeryShort(t *testing.T) {
	noughts := "1" + strings.Repeat("0", 400)
	great, small := api.Q(noughts), api.Q("1/"+noughts)
	infinite := math.Inf(1)
	f := api.Frame{
		Joints: []api.Spot{spot("0", "0"), spot("3"+great[1:], "-4"+great[1:]), spot("-3/"+great, "4/"+great), spot("0", great)},
		Bars:   []api.Bar{{A: 0, B: 1, C: "1"}, {A: 2, B: 0, C: "1"}, {A: 0, B: 3, C: "1"}},
	}
	isLong(t, "both", f, infinite, 0, infinite)
	isPulled(t, "made up for", f, []api.Q{small, great, "-1/2" + great[1:]}, 5, 5, -0.5)
	isPulled(t, "as a root", drawn("0,0 "+noughts+","+noughts, "0-1 1-0", ""), []api.Q{"-3/" + great, "1/10" + great[1:]}, -4.242640687119285, 0.1414213562373095)
	isPulled(t, "by 1", f, []api.Q{"1", "1", "-1"}, infinite, 0, -infinite)
	isPulled(t, "by nothing", f, []api.Q{"0", "0", "-0"}, 0, 0, 0)
	isPulled(t, "farther away", f, []api.Q{"-" + great, small, great}, -infinite, 0, infinite)
	isPulled(t, "below 0, nearest to 0", f, []api.Q{small + great[1:], "-1", "-" + small + great[1:]}, 0, math.Copysign(0, -1), math.Copysign(0, -1))
}

// Stresses of great length: what they are nearest to is told by their first digits and their last one.
func TestLongStresses(t *testing.T) {
	f := drawn("0,0 3,4", "0-1 0-1 0-1 0-1", "")
	thirds, noughts := strings.Repeat("3", 3000), strings.Repeat("0", 3000)
	isPulled(t, "long", f, []api.Q{api.Q(thirds + "/1" + noughts), api.Q("-1" + noughts + "/" + thirds), api.Q(thirds), api.Q("1/" + thirds)}, 5./3, -15, math.Inf(1), 0)
	isPulled(t, "around half", drawn("0,0 3/5,4/5", "0-1 0-1 0-1", ""), []api.Q{
		api.Q("9007199254740993" + noughts + "/1" + noughts),
		api.Q("9007199254740993" + noughts[1:] + "1/1" + noughts),
		api.Q("-9007199254740992" + strings.Repeat("9", 3000) + "/1" + noughts),
	}, 1<<53, 1<<53+2, -(1 << 53))
}
