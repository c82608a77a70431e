package beam_test

import (
	"fmt"
	"strings"
	"testing"

	"rafter/api"
	"rafter/beam"
)

func fault(code api.Errno, at int) api.Fault { return api.Fault{Code: code, At: at} }

// drawn makes a beam of words: a prop is its place, a ! if it is fast, and =By (none told: 0); a put is p (a Point), t (a Twist) or e (Even), its place (of e a .. and its To), and :P.
func drawn(long, stiff api.Q, props, puts string) api.Beam {
	b := api.Beam{Long: long, Stiff: stiff}
	for _, w := range strings.Fields(props) {
		w, by, _ := strings.Cut(w, "=")
		at, fast := strings.CutSuffix(w, "!")
		b.Props = append(b.Props, api.Prop{At: api.Q(at), Fast: fast, By: api.Q(by)})
	}
	for _, w := range strings.Fields(puts) {
		place, p, _ := strings.Cut(w[1:], ":")
		at, to, _ := strings.Cut(place, "..")
		kind := map[byte]int{'p': api.Point, 't': api.Twist, 'e': api.Even}[w[0]]
		b.Puts = append(b.Puts, api.Put{Kind: kind, At: api.Q(at), To: api.Q(to), P: api.Q(p)})
	}
	return b
}

func toldPieces(l []api.Piece) string {
	var words []string
	for _, p := range l {
		words = append(words, fmt.Sprintf("%s..%s%v", p.From, p.To, p.P))
	}
	return strings.Join(words, " ")
}

func toldBent(x api.Bent) string {
	return fmt.Sprint(x.Pushes, x.Twists, " ", toldPieces(x.Rise))
}

func TestSolve(t *testing.T) {
	for _, c := range []struct {
		what string
		b    api.Beam
		want string
	}{
		{"in the middle", drawn("1", "1", "0 1", "p1/2:-1"), "[1/2 1/2] [0 0] 0..1/2[0 -1/16 0 1/12] 1/2..1[1/48 -3/16 1/4 -1/12]"},
		{"in the middle, stiffer", drawn("1", "5", "0 1", "p1/2:-1"), "[1/2 1/2] [0 0] 0..1/2[0 -1/80 0 1/60] 1/2..1[1/240 -3/80 1/20 -1/60]"},
		{"up", drawn("1", "1", "0 1", "p1/2:1"), "[-1/2 -1/2] [0 0] 0..1/2[0 1/16 0 -1/12] 1/2..1[-1/48 3/16 -1/4 1/12]"},
		{"fast at both ends", drawn("1", "1", "0! 1!", "e0..1:-1"), "[1/2 1/2] [1/12 -1/12] 0..1[0 0 -1/24 1/12 -1/24]"},
		{"fast at the left end", drawn("2", "2", "0!", "p2:-3"), "[3] [6] 0..2[0 0 -3/2 1/4]"},
		{"fast at the right end", drawn("1", "1", "1!", "p0:-1"), "[1] [-1] 0..1[-1/3 1/2 0 -1/6]"},
		{"fast between", drawn("2", "1", "1!", "p0:-1 p2:-1"), "[2] [0] 0..1[-1/3 1/2 0 -1/6] 1..2[-2/3 3/2 -1 1/6]"},
		{"fast at one end, propped at the other", drawn("1", "1", "0! 1", "e0..1:-1"), "[5/8 3/8] [1/8 0] 0..1[0 0 -1/16 5/48 -1/24]"},
		{"propped at one end, fast at the other", drawn("1", "1", "0 1!", "e0..1:-1"), "[3/8 5/8] [0 -1/8] 0..1[0 -1/48 0 1/16 -1/24]"},
		{"three props", drawn("2", "1", "0 1 2", "e0..2:-1"), "[3/8 5/4 3/8] [0 0 0] 0..1[0 -1/48 0 1/16 -1/24] 1..2[-5/24 29/48 -5/8 13/48 -1/24]"},
		{"beyond the props", drawn("3", "1", "1 2", "p0:-1"), "[2 -1] [0 0] 0..1[-2/3 5/6 0 -1/6] 1..2[-1 11/6 -1 1/6] 2..3[1/3 -1/6]"},
		{"a twist at the free end", drawn("1", "1", "0!", "t1:2"), "[0] [-2] 0..1[0 0 1]"},
		{"a twist in the middle", drawn("1", "1", "0 1", "t1/2:1"), "[1 -1] [0 0] 0..1/2[0 -1/24 0 1/6] 1/2..1[-1/8 11/24 -1/2 1/6]"},
		{"nothing on it", drawn("1", "1", "0 1", ""), "[0 0] [0 0] 0..1[]"},
		{"a put of nothing", drawn("2", "1", "0 2", "p1:0"), "[0 0] [0 0] 0..1[] 1..2[]"},
		{"moved, straight", drawn("2", "1/7", "0=1 2=4", ""), "[0 0] [0 0] 0..2[1 3/2]"},
		{"moved, level", drawn("2", "7", "0=-3/2 2=-3/2", ""), "[0 0] [0 0] 0..2[-3/2]"},
		{"moved, one fast", drawn("2", "7", "1!=5", ""), "[0] [0] 0..1[5] 1..2[5]"},
		{"the middle one moved", drawn("2", "1", "0 1=1 2", ""), "[-3 6 -3] [0 0 0] 0..1[0 3/2 0 -1/2] 1..2[-1 9/2 -3 1/2]"},
		{"the middle one moved, stiffer", drawn("2", "5/3", "0 1=1 2", ""), "[-5 10 -5] [0 0 0] 0..1[0 3/2 0 -1/2] 1..2[-1 9/2 -3 1/2]"},
		{"a fast one moved", drawn("1", "1", "0! 1!=1", ""), "[-12 12] [-6 -6] 0..1[0 0 3 -2]"},
		{"moved and loaded", drawn("1", "2", "0!=1 1!=1", "e0..1:-1"), "[1/2 1/2] [1/12 -1/12] 0..1[1 0 -1/48 1/24 -1/48]"},
	} {
		x, f := beam.Solve(c.b)
		if got := toldBent(x); got != c.want || f != (api.Fault{}) {
			t.Errorf("%s: %s %v, want %s", c.what, got, f, c.want)
		}
	}
}

// Two props, or a fast one, hold a beam; one that isn't held bears what comes to nothing around its prop, or, without any prop, what comes to nothing at all, and lies anyhow then.
func TestNotHeld(t *testing.T) {
	for _, c := range []struct {
		what  string
		props string
		puts  string
		want  api.Errno
	}{
		{"no props, no puts", "", "", api.ErrFree},
		{"no props, a push", "", "p1:1", api.ErrNone},
		{"no props, a twist", "", "t1:1", api.ErrNone},
		{"no props, an even load", "", "e0..2:1", api.ErrNone},
		{"no props, a push of nothing", "", "p1:0", api.ErrFree},
		{"no props, pushes against each other", "", "p1:1 p1:-1", api.ErrFree},
		{"no props, a couple", "", "p1:1 p2:-1", api.ErrNone},
		{"no props, a couple and a twist against it", "", "p1:1 p2:-1 t0:1", api.ErrFree},
		{"no props, a couple and a twist along with it", "", "p1:1 p2:-1 t0:-1", api.ErrNone},
		{"no props, an even load and a push against it", "", "e0..2:1 p1:-2", api.ErrFree},
		{"no props, an even load and a push beside it", "", "e0..2:1 p0:-2", api.ErrNone},
		{"no props, twists against each other", "", "t0:3/2 t2:-3/2", api.ErrFree},
		{"one prop, no puts", "1", "", api.ErrFree},
		{"one prop, moved", "1=5", "", api.ErrFree},
		{"one prop, a push at it", "1", "p1:-7", api.ErrFree},
		{"one prop, a push beside it", "1", "p2:-7", api.ErrNone},
		{"one prop at 0, a push at Long", "0", "p2:-7", api.ErrNone},
		{"one prop at Long, a push there", "2", "p2:-7", api.ErrFree},
		{"one prop, even pushes", "1", "p0:-7 p2:-7", api.ErrFree},
		{"one prop, an even load", "1", "e0..2:-7", api.ErrFree},
		{"one prop, an even load at one side", "1", "e1..2:-7", api.ErrNone},
		{"one prop, a twist at it", "1", "t1:1", api.ErrNone},
		{"one prop, a push and a twist against it", "1", "p2:-1 t0:1", api.ErrFree},
		{"one prop that is fast", "1!", "p2:-1", api.OK},
		{"two props", "0 1", "p2:-1", api.OK},
		{"two props at the ends", "0 2", "t1:1", api.OK},
		{"six props, each fast", "0! 1/3! 2/3! 1! 3/2! 2!", "p2:-1", api.OK},
	} {
		x, f := beam.Solve(drawn("2", "3", c.props, c.puts))
		if f != fault(c.want, 0) {
			t.Errorf("%s: %v, want %v", c.what, f, c.want)
		}
		if c.want != api.OK && (x.Rise != nil || x.Pushes != nil || x.Twists != nil) {
			t.Errorf("%s: %v beside %v", c.what, x, f)
		}
	}
}

func TestPieces(t *testing.T) {
	for _, c := range []struct {
		what  string
		props string
		puts  string
		want  string
	}{
		{"none but the ends", "0 4", "", "0 4"},
		{"a prop between", "0 1 4", "", "0 1 4"},
		{"props off the ends", "1 3", "", "0 1 3 4"},
		{"puts at the ends", "0 4", "p0:1 t4:1 t0:2 p4:1", "0 4"},
		{"puts at props", "1 3", "p1:1 t3:1 e1..3:1", "0 1 3 4"},
		{"several at one place", "0 4", "p2:1 p2:1 t4/2:1 e2..4:1 e0..6/3:1", "0 2 4"},
		{"in no order", "0 4", "p3:1 t1:1 p2:1", "0 1 2 3 4"},
		{"an even load that ends between", "0 4", "e1..5/2:1", "0 1 5/2 4"},
		{"an even load that ends at Long", "0 4", "e1..4:1", "0 1 4"},
		{"even loads, one behind the other", "0 4", "e0..1:1 e1..2:1 e2..4:1", "0 1 2 4"},
		{"even loads over each other", "0 4", "e0..3:1 e1..2:1", "0 1 2 3 4"},
		{"puts of nothing", "0 4", "p1:0 t2:x e3..7/2:1/0", "0 1 2 3 7/2 4"},
		{"puts against each other", "0 4", "p1:1 p1:-1", "0 1 4"},
		{"a point's To says nothing", "0 4", "p1..3:1 t2..5/2:1", "0 1 2 4"},
		{"not by how they are written", "0! 08/2!", "p2/2:1 t01:1 e-0..12/4:1", "0 1 3 4"},
	} {
		x, f := beam.Solve(drawn("4", "1", c.props, c.puts))
		if f != (api.Fault{}) || len(x.Rise) == 0 {
			t.Errorf("%s: %v %v", c.what, x, f)
			continue
		}
		places := []string{string(x.Rise[0].From)}
		for i, p := range x.Rise {
			if string(p.From) != places[i] {
				t.Errorf("%s: %v", c.what, x.Rise)
			}
			places = append(places, string(p.To))
			if n := len(p.P); n > 0 && p.P[n-1] == "0" || n > 5 {
				t.Errorf("%s: %v", c.what, p.P)
			}
		}
		if got := strings.Join(places, " "); got != c.want {
			t.Errorf("%s: %s, want %s", c.what, got, c.want)
		}
	}
}

// A polynomial is as short as it can be: of nothing at all, of a constant, and with noughts inside.
func TestShortPolynomials(t *testing.T) {
	for _, c := range []struct {
		b    api.Beam
		want string
	}{
		{drawn("3", "1", "1 2", ""), "0..1[] 1..2[] 2..3[]"},
		{drawn("3", "1", "1!", "p3:1"), "0..1[] 1..3[7/6 -5/2 3/2 -1/6]"},
		{drawn("3", "1", "2!", "t0:-2"), "0..2[4 -4 1] 2..3[]"},
		{drawn("3", "1", "2!=1", "t1:-2"), "0..1[4 -2] 1..2[5 -4 1] 2..3[1]"},
		{drawn("1", "1", "1!", "e0..1:24"), "0..1[3 -4 0 0 1]"},
		{drawn("2", "1", "0!", "e0..1:24 p1:-24 t1:12"), "0..1[0 0 0 0 1] 1..2[-3 4]"},
		{drawn("2", "1", "0! 2", "p2:9"), "0..2[]"},
	} {
		x, f := beam.Solve(c.b)
		if got := toldPieces(x.Rise); got != c.want || f != (api.Fault{}) {
			t.Errorf("%v: %s %v, want %s", c.b, got, f, c.want)
		}
	}
}
