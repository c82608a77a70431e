package swing_test

import (
	"testing"

	"rafter/api"
	"rafter/swing"
)

func TestQuotient(t *testing.T) {
	two := drawn(rights, rightly, feet)
	chain := drawn(line, links, walls)
	for _, c := range []struct {
		what   string
		f      api.Frame
		masses string
		motion string
		want   api.Q
	}{
		{"along the first bar", two, "1 1 1", "1,0 0,0 0,0", "2"},
		{"along the second", two, "1 1 1", "0,1 0,0 0,0", "3"},
		{"along both", two, "1 1 1", "1,1 0,0 0,0", "5/2"},
		{"along both, the other way", two, "1 1 1", "1,-1 0,0 0,0", "5/2"},
		{"more along one", two, "1 1 1", "2,1 0,0 0,0", "11/5"},
		{"by more", two, "1 1 1", "-200,-100 0,0 0,0", "11/5"},
		{"by very little", two, "1 1 1", "1/1000000000000000000000,0 0,0 0,0", "2"},
		{"heavier", two, "3 1 1", "1,1 0,0 0,0", "5/6"},
		{"what is held may be heavy", two, "3 7 1/9", "1,1 0,0 0,0", "5/6"},
		{"both joints of a chain", chain, "1 1 1 1", "0,0 1,0 1,0 0,0", "1"},
		{"against each other", chain, "1 1 1 1", "0,0 1,0 -1,0 0,0", "3"},
		{"one of them", chain, "1 1 1 1", "0,0 1,0 0,0 0,0", "2"},
		{"one is heavier", chain, "1 1 2 1", "0,0 1,0 1,0 0,0", "2/3"},
		{"one is heavier, against each other", chain, "1 1 2 1", "0,0 1,0 -1,0 0,0", "2"},
		{"across: nothing is stretched", chain, "1 1 1 1", "0,0 0,5 0,-1 0,0", "0"},
		{"along and across", chain, "1 1 1 1", "0,0 1,1 1,-1 0,0", "1/2"},
		{"a frame that goes away", drawn(rights, rightly, ""), "1 2 3", "1,-1/7 1,-1/7 1,-1/7", "0"},
		{"a frame that turns", drawn(rights, rightly+" 1-2", ""), "1 2 3", "0,0 0,1 -1,0", "0"},
		{"a bar that grows", drawn("0,0 1,0", "0-1", ""), "1/2 2", "-4,0 1,0", "5/2"},
		{"a long bar", drawn("0,0 3,4", "0-1", "0x 0y"), "1 1", "0,0 3,4", "25"},
		{"a long bar, across", drawn("0,0 3,4", "0-1", "0x 0y"), "1 1", "0,0 4,-3", "0"},
		{"a long bar, slantwise", drawn("0,0 3,4", "0-1", "0x 0y"), "1 1", "0,0 1,1", "49/2"},
		{"no bars", drawn("5,7", "", ""), "9", "1,2", "0"},
		{"no bars, held in one way", drawn("5,7", "", "0x"), "9", "0,2", "0"},
		{"numbers not in lowest terms, and what counts as 0", two, "02/2 7/7 3/3", "0004/2,3/3 x,1/0 -0,", "11/5"},
	} {
		m := spots(c.motion)
		if got, g := swing.Quotient(c.f, numbers(c.masses), m); got != c.want || g != (api.Fault{}) {
			t.Errorf("%s: %q %v, want %q", c.what, got, g, c.want)
		}
		quotient(t, c.f, numbers(c.masses), m)
	}
}

// What moves a held joint is told by what its numbers are, not by how far the hold itself is moved.
func TestQuotientWhereHoldsAreMoved(t *testing.T) {
	f := drawn(rights, rightly, feet)
	for i := range f.Holds {
		f.Holds[i].By = "5"
	}
	if got, g := swing.Quotient(f, ones(3), spots("1,1 0,0 0,0")); got != "5/2" || g != (api.Fault{}) {
		t.Errorf("%q %v", got, g)
	}
	if got, g := swing.Quotient(f, ones(3), spots("1,1 5,5 5,5")); got != "" || g != fault(api.ErrValue, 2) {
		t.Errorf("moved as the holds are: %q %v", got, g)
	}
}
