package rows

import (
	"fmt"
	"math/rand"
	"testing"

	"rafter/api"
	"rafter/num"
)

func TestPolynomial(t *testing.T) {
	for _, c := range []struct{ text, want string }{
		{"", "1"},
		{"0", "0 1"},
		{"-7/9", "-7/9 1"},
		{"0 0; 0 0", "0 0 1"},
		{"1 0; 0 1", "1 2 1"},
		{"2 0; 0 -3", "-6 -1 1"},
		{"1 2; 3 4", "-2 5 1"},
		{"2 -1; -1 2", "3 4 1"},
		{"0 1; 0 0", "0 0 1"},
		{"0 1; -1 0", "1 0 1"},
		{"1 2 3; 4 5 6; 7 8 9", "0 -18 15 1"},
		{"1 2 3; 4 5 6; 7 8 10", "-3 -12 16 1"},
		{"0 0 1; 1 0 0; 0 1 0", "1 0 0 1"},
		{"1/2 0 0; 5 1/3 0; 7 9 1/5", "1/30 1/3 31/30 1"},
	} {
		l := read(c.text)
		if got := told([]Row{Polynomial(l)}); got != c.want {
			t.Errorf("%q: %s, want %s", c.text, got, c.want)
		}
		if got := told(l); got != c.text {
			t.Errorf("%q has become %q", c.text, got)
		}
	}
}

// determinant goes by the first row's numbers, each times what is left without its column.
func determinant(l []Row) num.Frac {
	if len(l) == 0 {
		return num.Whole(1)
	}
	var sum num.Frac
	for c, by := range l[0] {
		if by.IsZero() {
			continue
		}
		var rest []Row
		for _, r := range l[1:] {
			rest = append(rest, append(append(Row{}, r[:c]...), r[c+1:]...))
		}
		if part := by.Times(determinant(rest)); c%2 == 0 {
			sum = sum.Plus(part)
		} else {
			sum = sum.Minus(part)
		}
	}
	return sum
}

func TestPolynomialIsTheDeterminant(t *testing.T) {
	r := rand.New(rand.NewSource(8))
	for range 400 {
		n := r.Intn(6)
		l := randomRows(r, n, n)
		p := Polynomial(l)
		for range 3 {
			x := num.Of(api.Q(fmt.Sprintf("%d/%d", r.Intn(9)-4, 1+r.Intn(3))))
			with := Blank(n, n)
			for i := range n {
				copy(with[i], l[i])
				with[i][i] = l[i][i].Plus(x)
			}
			var sum num.Frac
			for k := n; k >= 0; k-- {
				sum = sum.Times(x).Plus(p[k])
			}
			if want := determinant(with); !sum.Equal(want) {
				t.Fatalf("%s, x %s: %s, want %s", told(l), x.Q(), sum.Q(), want.Q())
			}
		}
	}
}
