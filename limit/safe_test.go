package limit_test

import (
	"math/big"
	"testing"

	"rafter/api"
	"rafter/limit"
)

// safely holds what Safe tells against want, and against the chapter.
func safely(t *testing.T, what string, f api.Frame, l []api.Load, factor api.Q, s api.Stress, want bool) {
	t.Helper()
	if got, g := limit.Safe(f, l, factor, s); got != want || g != (api.Fault{}) || want != isSafe(f, l, factor, s) {
		t.Errorf("%s: %v %v, want %v", what, got, g, want)
	}
}

func TestSafe(t *testing.T) {
	f := drawn(rights, rightly, feet)
	for _, c := range []struct {
		what, l string
		factor  api.Q
		s       string
		want    bool
	}{
		{"it bears them", "0=-1,-1", "1", "1 1; 1 0 0 1", true},
		{"half of them", "0=-1,-1", "1/2", "1/2 1/2; 1/2 0 0 1/2", true},
		{"the first bar bears too much", "0=-1,-1", "1", "3/2 1; 1 0 0 1", false},
		{"the second bar bears too little", "0=-1,-1", "1", "1 1/2; 1 0 0 1", false},
		{"the first hold pushes too much", "0=-1,-1", "1", "1 1; 2 0 0 1", false},
		{"the second hold pushes", "0=-1,-1", "1", "1 1; 1 1/9 0 1", false},
		{"the third hold pushes", "0=-1,-1", "1", "1 1; 1 0 -1/9 1", false},
		{"the fourth hold doesn't push", "0=-1,-1", "1", "1 1; 1 0 0 0", false},
		{"with another factor", "0=-1,-1", "2", "1 1; 1 0 0 1", false},
		{"with the opposite factor", "0=-1,-1", "-1", "1 1; 1 0 0 1", false},
		{"just at Most", "0=-1,-1", "2", "2 2; 2 0 0 2", true},
		{"beyond Most", "0=-1,-1", "3", "3 3; 3 0 0 3", false},
		{"one just at Most, one beyond", "0=-2,-3", "1", "2 3; 2 0 0 3", false},
		{"just at Least", "0=1,1", "1", "-1 -1; -1 0 0 -1", true},
		{"beyond Least", "0=1,1", "2", "-2 -2; -2 0 0 -2", false},
		{"at Least and at Most", "0=1,-2", "1", "-1 2; -1 0 0 2", true},
		{"a factor of 0", "0=-1,-1", "0", "0 0; 0 0 0 0", true},
		{"a factor of 0, and something is borne", "0=-1,-1", "0", "1 1; 1 0 0 1", false},
		{"a factor that counts as 0", "0=-1,-1", "1.5", "0 0; 0 0 0 0", true},
		{"a factor below 0", "0=-1,-1", "-1", "-1 -1; -1 0 0 -1", true},
		{"a factor far below 0", "0=-1,-1", "-3/2", "-3/2 -3/2; -3/2 0 0 -3/2", false},
		{"numbers that aren't in lowest terms", "0=-2/2,-03/3", "4/4", "02/2 1/1; 7/7 0/5 -0 01", true},
		{"numbers that count as 0", "0=-1,x", "1", "1 x; 1 1/0 - 0.0", true},
		{"no loads", "", "7", "0 0; 0 0 0 0", true},
		{"no loads, and something pulls", "", "7", "1 0; 1 0 0 0", false},
		{"loads on holds", "1=5,7", "1000", "0 0; -5000 -7000 0 0", true},
		{"several loads at one joint", "0=-1/2,0 0=-1/2,-1 2=4,0", "1", "1 1; 1 0 -4 1", true},
	} {
		safely(t, c.what, f, pulls(c.l), c.factor, stressOf(c.s), c.want)
	}
}

// Bars hold up to their ends, these counting, however near to them beyond is.
func TestSafeNearTheEnds(t *testing.T) {
	f := drawn(line, "0-1:-1/3:2/7", roller)
	little := new(big.Rat).SetFrac(big.NewInt(1), new(big.Int).Exp(big.NewInt(10), big.NewInt(300), nil))
	for _, end := range []struct {
		at   *big.Rat
		past int64
	}{{big.NewRat(-1, 3), -1}, {big.NewRat(2, 7), 1}} {
		for by := int64(-1); by <= 1; by++ {
			x := new(big.Rat).Mul(little, big.NewRat(by, 1))
			x.Add(x, end.at)
			stress := api.Stress{Bars: []api.Q{api.Q(x.RatString())}, Holds: []api.Q{api.Q(new(big.Rat).Neg(x).RatString()), "0", "0"}}
			safely(t, x.RatString(), f, pulls("1=1,0"), api.Q(x.RatString()), stress, by != end.past)
		}
	}
	none := drawn(line, "0-1:0:0", roller)
	safely(t, "nothing", none, pulls("1=1,0"), "0", stressOf("0; 0 0 0"), true)
	safely(t, "pulled", none, pulls("1=1,0"), "1/9", stressOf("1/9; -1/9 0 0"), false)
	safely(t, "pushed", none, pulls("1=1,0"), "-1/9", stressOf("-1/9; 1/9 0 0"), false)
}

// Of a frame that has a stress of its own more than one stress is safe; what its bars and holds are otherwise says nothing.
func TestSafeWithItsOwn(t *testing.T) {
	f := drawn(square, sides+" 0-2 1-3", supports)
	f.Bars[1].C, f.Bars[3].E, f.Holds[0].By = "1/9", "17", "3"
	l := pulls("2=1,1 0=-1,-1")
	safely(t, "one", f, l, "1", stressOf("0 0 0 0 1 0; 0 0 0"), true)
	safely(t, "another", f, l, "1", stressOf("-1 -1 -1 -1 2 1; 0 0 0"), true)
	safely(t, "one that's too much", f, l, "1", stressOf("-2 -2 -2 -2 3 2; 0 0 0"), false)
	safely(t, "one that isn't even", f, l, "1", stressOf("-1 -1 -1 -1 2 0; 0 0 0"), false)
	safely(t, "nothing at all", drawn("5,7", "", ""), nil, "5", api.Stress{}, true)
	safely(t, "empty lists", drawn("5,7", "", ""), []api.Load{}, "5", api.Stress{Bars: []api.Q{}, Holds: []api.Q{}}, true)
	safely(t, "a load that nothing bears", drawn("5,7", "", ""), pulls("0=1,0"), "5", api.Stress{}, false)
	safely(t, "a load that nothing bears, 0 times", drawn("5,7", "", ""), pulls("0=1,0"), "0", api.Stress{}, true)
}
