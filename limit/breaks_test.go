package limit_test

import (
	"strings"
	"testing"

	"rafter/api"
	"rafter/limit"
)

// broken holds what Breaks tells against want, and against the chapter.
func broken(t *testing.T, what string, f api.Frame, l []api.Load, m []api.Spot, want api.Q, g api.Fault) {
	t.Helper()
	if got, h := limit.Breaks(f, l, m); got != want || h != g {
		t.Errorf("%s: %q %v, want %q %v", what, got, h, want, g)
	}
	q, h := breaks(f, l, m)
	if h != g || h == (api.Fault{}) && q.RatString() != string(want) {
		t.Errorf("%s: the chapter says %v %v, not %s %v", what, q, h, want, g)
	}
}

func TestBreaks(t *testing.T) {
	f := drawn(rights, "0-1 0-2:-3:5", feet)
	for _, c := range []struct {
		what, l, m string
		want       api.Q
	}{
		{"the first is stretched", "0=-1,0", "-1,0 0,0 0,0", "2"},
		{"it is stretched by more", "0=-1,0", "-7,0 0,0 0,0", "2"},
		{"the first is shortened", "0=1,0", "1,0 0,0 0,0", "1"},
		{"the second is stretched", "0=0,-1", "0,-1/3 0,0 0,0", "5"},
		{"the second is shortened", "0=0,1", "0,2 0,0 0,0", "3"},
		{"both are stretched", "0=-1,-1", "-1,-1 0,0 0,0", "7/2"},
		{"both are shortened", "0=1,1", "1,2 0,0 0,0", "7/3"},
		{"one is, one isn't", "0=-1,1", "-1,1 0,0 0,0", "5/2"},
		{"against one of the loads", "0=-2,1", "-1,-1 0,0 0,0", "7"},
		{"greater loads", "0=-10,-10", "-1,-1 0,0 0,0", "7/20"},
		{"several loads at a joint", "0=-1,3 0=0,-3 1=5,5 0=-1,0", "-1,-1 0,0 0,0", "7/2"},
		{"numbers that aren't in lowest terms", "0=-2/2,-0", "-4/4,x 1/0,0/3 -0,", "2"},
	} {
		broken(t, c.what, f, pulls(c.l), spots(c.m), c.want, api.Fault{})
	}
	slant := drawn("0,0 3,4", "0-1:-1/7:2/5", "0x 0y")
	for _, c := range []struct {
		what, l, m string
		want       api.Q
	}{
		{"along a bar", "1=3,4", "0,0 3,4", "2/5"},
		{"across it: it is neither stretched nor shortened", "1=3,0", "0,0 4,-3", "0"},
		{"slantwise", "1=1,0", "0,0 1,0", "6/5"},
		{"slantwise, back", "1=-1,0", "0,0 -1,0", "3/7"},
	} {
		broken(t, c.what, slant, pulls(c.l), spots(c.m), c.want, api.Fault{})
	}
	broken(t, "a joint alone", drawn("5,7", "", ""), pulls("0=1,2"), spots("1,1"), "0", api.Fault{})
	broken(t, "bars that hold nothing", drawn(line, "0-1:0:0", roller), pulls("1=1,0"), spots("0,0 1,0"), "0", api.Fault{})
	broken(t, "one side that holds nothing", drawn(line, "0-1:-5:0", roller), pulls("1=1,0"), spots("0,0 1,0"), "0", api.Fault{})
	broken(t, "a frame that goes away", drawn(line, "0-1", ""), pulls("0=0,1"), spots("2,3 2,3"), "0", api.Fault{})
}

func TestBreaksByNoWork(t *testing.T) {
	f := drawn(rights, rightly, feet)
	none := fault(api.ErrNone, 0)
	for _, c := range []struct{ what, l, m string }{
		{"no loads", "", "-1,0 0,0 0,0"},
		{"no motion", "0=-1,0", "0,0 0,0 0,0"},
		{"no loads, no motion", "", "0,0 0,0 0,0"},
		{"a motion that counts as 0", "0=-1,0", "x,1.0 1/0,- ,"},
		{"across the load", "0=-1,0", "0,1 0,0 0,0"},
		{"against the load", "0=-1,0", "1/99,5 0,0 0,0"},
		{"loads that come to 0", "0=-1,2 0=1,-2", "1,1 0,0 0,0"},
		{"work and the opposite work", "0=-1,1", "1,1 0,0 0,0"},
		{"loads on holds", "1=1,1 2=-1,5", "1,1 0,0 0,0"},
	} {
		broken(t, c.what, f, pulls(c.l), spots(c.m), "", none)
	}
	broken(t, "as much work against as with it", drawn("0,0 1,0", "0-1", ""), pulls("0=1,0 1=-1,0"), spots("3,1 3,-1"), "", none)
}

func TestBreaksOfHolds(t *testing.T) {
	f := drawn(square, sides+" 0-2", "2y 0x 1y 0y")
	f.Holds[0].By, f.Holds[1].By = "1", "-3"
	l := pulls("2=1,1 3=0,1")
	for _, c := range []struct {
		what, m string
		at      int
	}{
		{"the first", "0,0 0,0 0,1 0,0", 5},
		{"the second", "1/9,0 0,0 0,0 0,0", 6},
		{"the third", "0,0 0,-1 0,0 0,0", 7},
		{"the fourth", "0,-1/9 0,0 1,0 0,0", 8},
		{"the first hold of several, not the first joint", "1,1 1,1 1,1 1,1", 5},
		{"the second hold of two, as holds stand", "1,1 0,0 7,0 0,0", 6},
		{"the third of two", "0,1 0,1 0,0 0,0", 7},
		{"ahead of there being no work", "0,0 0,0 0,-1 0,0", 5},
		{"as By tells", "-3,0 0,0 0,1 0,0", 5},
	} {
		broken(t, c.what, f, l, spots(c.m), "", fault(api.ErrValue, c.at))
	}
	broken(t, "all other ways", f, l, spots("0,0 1,0 1,0 0,1"), "4", api.Fault{})
	broken(t, "all other ways, no loads", f, nil, spots("0,0 1,0 1,0 0,1"), "", fault(api.ErrNone, 0))
}

func TestBreaksOfLongNumbers(t *testing.T) {
	long := api.Q("1" + strings.Repeat("0", 2000) + "7")
	f := drawn(line, "0-1", roller)
	f.Bars[0].Most = long
	broken(t, "a long Most", f, []api.Load{load(1, "1/"+long, "0")}, []api.Spot{{}, spot(long, "0")}, api.Q(rat(t, long).Mul(rat(t, long), rat(t, long)).RatString()), api.Fault{})
}
