package rows

import (
	"fmt"
	"math/rand"
	"testing"

	"rafter/api"
	"rafter/num"
)

func TestSigns(t *testing.T) {
	for _, c := range []struct {
		text        string
		plus, minus int
	}{
		{"", 0, 0},
		{"0", 0, 0},
		{"7/9", 1, 0},
		{"-1/9", 0, 1},
		{"0 0; 0 0", 0, 0},
		{"0 0; 0 -1", 0, 1},
		{"0 1; 1 0", 1, 1},
		{"0 -1; -1 0", 1, 1},
		{"0 1; 1 5", 1, 1},
		{"1 2; 2 4", 1, 0},
		{"1 2; 2 5", 2, 0},
		{"1 2; 2 3", 1, 1},
		{"-1 2; 2 -5", 0, 2},
		{"0 1 1; 1 0 1; 1 1 0", 1, 2},
		{"0 -1 -1; -1 0 -1; -1 -1 0", 2, 1},
		{"0 0 1; 0 0 0; 1 0 0", 1, 1},
		{"0 0 0; 0 0 2; 0 2 0", 1, 1},
		{"0 0 1; 0 3 0; 1 0 0", 2, 1},
		{"0 1 0 0; 1 0 0 0; 0 0 0 1; 0 0 1 0", 2, 2},
		{"0 1 2 0; 1 0 0 0; 2 0 0 0; 0 0 0 0", 1, 1},
	} {
		l := read(c.text)
		if plus, minus := Signs(l); plus != c.plus || minus != c.minus {
			t.Errorf("%q: %d %d, want %d %d", c.text, plus, minus, c.plus, c.minus)
		}
		if got := told(l); got != c.text {
			t.Errorf("%q has become %q", c.text, got)
		}
	}
}

// squares has, of each row of l, its square, times the row's number of by: all added.
func squares(l []Row, wide int, by Row) []Row {
	sum := Blank(wide, wide)
	for n, r := range l {
		for i := range wide {
			for c := range wide {
				sum[i][c] = sum[i][c].Plus(by[n].Times(r[i]).Times(r[c]))
			}
		}
	}
	return sum
}

// Squares of rows that don't hang together are as many as were put in.
func TestSignsOfSquares(t *testing.T) {
	r := rand.New(rand.NewSource(7))
	seen := map[string]int{}
	for range 3000 {
		high, wide := r.Intn(6), r.Intn(6)
		l := randomRows(r, high, wide)
		if Rank(l, wide) < high {
			continue
		}
		by := make(Row, high)
		plus, minus := 0, 0
		for n := range high {
			by[n] = num.Of(api.Q(fmt.Sprintf("%d/%d", r.Intn(7)-3, 1+r.Intn(3))))
			switch by[n].Sign() {
			case 1:
				plus++
			case -1:
				minus++
			}
		}
		sum := squares(l, wide, by)
		before := told(sum)
		if a, b := Signs(sum); a != plus || b != minus {
			t.Fatalf("%s: %d %d, want %d %d", before, a, b, plus, minus)
		}
		if after := told(sum); after != before {
			t.Fatalf("%s has become %s", before, after)
		}
		seen[fmt.Sprint(plus, minus)]++
	}
	for _, what := range []string{"0 0", "1 0", "0 1", "1 1", "2 0", "0 2", "2 1", "1 2", "2 2"} {
		if seen[what] < 10 {
			t.Errorf("only %d of %s", seen[what], what)
		}
	}
}
