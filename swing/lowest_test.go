package swing_test

import (
	"math/big"
	"strings"
	"testing"

	"rafter/api"
	"rafter/swing"
)

// floored is the greatest multiple of 2 to the power of - digits that isn't above x, which isn't below 0.
func floored(x *big.Rat, digits int) *big.Rat {
	y := new(big.Rat).Quo(x, part(digits))
	n := new(big.Rat).SetInt(new(big.Int).Quo(y.Num(), y.Denom()))
	return n.Mul(n, part(digits))
}

func TestLowest(t *testing.T) {
	for _, c := range known {
		f, masses := drawn(c.places, c.bars, c.holds), numbers(c.masses)
		paces := rats(numbers(c.paces))
		for _, digits := range []int{0, 1, 2, 3, 10, 31, 32, 33, 59, api.MaxDigits} {
			got := lowest(t, f, masses, digits)
			if got == nil && len(paces) == 0 {
				continue
			}
			if want := floored(paces[0], digits); got.Cmp(want) != 0 { // the least is told first
				t.Errorf("%s, %d digits: %v, want %v", c.what, digits, got, want)
			}
		}
	}
}

func TestLowestByDigits(t *testing.T) {
	thirds := drawn(rights, rightly, feet) // 2/3, with a mass of 3
	eighths := drawn(rights, "0-1*5/8 0-2", feet)
	halves := drawn(rights, "0-1*7 0-2*1/1152921504606846976", feet)
	for _, c := range []struct {
		what   string
		f      api.Frame
		masses string
		digits int
		want   api.Q
	}{
		{"no digits", thirds, "3 1 1", 0, "0"},
		{"one digit", thirds, "3 1 1", 1, "1/2"},
		{"two digits", thirds, "3 1 1", 2, "1/2"},
		{"three digits", thirds, "3 1 1", 3, "5/8"},
		{"four digits", thirds, "3 1 1", 4, "5/8"},
		{"five digits", thirds, "3 1 1", 5, "21/32"},
		{"all digits", thirds, "3 1 1", 60, "384307168202282325/576460752303423488"},
		{"whole", thirds, "1 1 1", 0, "2"},
		{"whole, all digits", thirds, "1 1 1", 60, "2"},
		{"such a multiple with one digit more", eighths, "1 1 1", 2, "1/2"},
		{"such a multiple", eighths, "1 1 1", 3, "5/8"},
		{"such a multiple, all digits", eighths, "1 1 1", 60, "5/8"},
		{"the last digit alone", halves, "1 1 1", 60, "1/1152921504606846976"},
		{"behind the last digit", halves, "1 1 1", 59, "0"},
		{"just below the last digit", halves, "1000000000000000000000000001/1000000000000000000000000000 1 1", 60, "0"},
		{"just below two of the last digit", halves, "501/1000 1 1", 60, "1/1152921504606846976"},
		{"two of the last digit", halves, "1/2 1 1", 60, "1/576460752303423488"},
		{"just below 1", thirds, "2000000000000000000000000001/1000000000000000000000000000 1 1", 0, "0"},
		{"just below 1, all digits", thirds, "2000000000000000000000000001/1000000000000000000000000000 1 1", 60, "1152921504606846975/1152921504606846976"},
		{"1", thirds, "2 1 1", 0, "1"},
		{"just above 1", thirds, "1999999999999999999999999999/1000000000000000000000000000 1 1", 60, "1"},
	} {
		if got, g := swing.Lowest(c.f, numbers(c.masses), c.digits); got != c.want || g != (api.Fault{}) {
			t.Errorf("%s: %s %v, want %s", c.what, got, g, c.want)
		}
		lowest(t, c.f, numbers(c.masses), c.digits)
	}
}

// The least pace squared of two joints in a row, at one wall, is the lesser x at which x squared and 1 are 3 times x.
func TestLowestThatIsNoFraction(t *testing.T) {
	f := drawn(loose, hung, wall)
	for digits, want := range []api.Q{"0", "0", "1/4", "3/8", "3/8", "3/8", "3/8", "3/8", "97/256"} {
		if got, g := swing.Lowest(f, ones(3), digits); got != want || g != (api.Fault{}) {
			t.Errorf("%d digits: %s %v, want %s", digits, got, g, want)
		}
	}
	above := func(x *big.Rat) int { // of x squared and 1 what is above 3 times x
		y := new(big.Rat).Mul(x, x)
		return y.Add(y, big.NewRat(1, 1)).Sub(y, new(big.Rat).Mul(x, big.NewRat(3, 1))).Sign()
	}
	for digits := range api.MaxDigits + 1 {
		x := lowest(t, f, ones(3), digits)
		if next := new(big.Rat).Add(x, part(digits)); above(x) <= 0 || x.Cmp(big.NewRat(1, 1)) > 0 || above(next) >= 0 {
			t.Errorf("%d digits: %v", digits, x)
		}
	}
}

// More digits never tell less, and what they tell more is less than one of those that were there.
func TestLowestWithMoreDigits(t *testing.T) {
	for _, f := range []api.Frame{drawn(loose, hung, wall), drawn(square, sides+" 0-2 1-3*1/3", supports), drawn(rights, rightly+" 1-2", "1x 1y 2y")} {
		masses := numbers("1 3/7 11 5")[:len(f.Joints)]
		last := lowest(t, f, masses, 0)
		for digits := 1; digits <= api.MaxDigits; digits++ {
			next := lowest(t, f, masses, digits)
			if more := new(big.Rat).Sub(next, last); more.Sign() != 0 && more.Cmp(part(digits)) != 0 {
				t.Errorf("%v: %d digits: %v, %v ahead", f, digits, next, last)
			}
			last = next
		}
	}
}

// A frame that moves as it is has a pace of 0, however many digits are asked for.
func TestLowestOfWhatMoves(t *testing.T) {
	for _, f := range []api.Frame{
		drawn("0,0", "", ""), drawn("0,0", "", "0x"), drawn("0,0 1,0", "0-1", ""), drawn(square, sides, supports), drawn(line, links, walls),
		drawn(square, sides+" 0-2 1-3", "0x 0y"), drawn(square+" 9,9", sides+" 0-2 1-3", supports),
	} {
		for _, digits := range []int{0, 1, 7, api.MaxDigits} {
			if got, g := swing.Lowest(f, ones(len(f.Joints)), digits); got != "0" || g != (api.Fault{}) {
				t.Errorf("%v, %d digits: %q %v", f, digits, got, g)
			}
		}
	}
}

// Where masses are far from each other, the least pace squared is told as it is, too.
func TestLowestOfFarMasses(t *testing.T) {
	far := "1" + strings.Repeat("0", 60)
	for _, masses := range []string{far + " 1 1", "1 " + far + " 1", "1 1 " + far, "1/" + far + " 1 " + far, far + " 1/" + far + " 7", "1/" + far + " 1/" + far + " 1/" + far} {
		for _, f := range []api.Frame{drawn(loose, hung, wall), drawn(rights, rightly+" 1-2", "0y 1y 2x"), drawn(rights, rightly+" 1-2*"+far, supports)} {
			for _, digits := range []int{0, 20, api.MaxDigits} {
				lowest(t, f, numbers(masses), digits)
			}
		}
	}
}
