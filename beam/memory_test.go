package beam_test

import (
	"fmt"
	"reflect"
	"slices"
	"testing"

	"rafter/api"
	"rafter/beam"
)

// allOf is what all calls tell of b.
func allOf(b api.Beam) string {
	x, g := beam.Solve(b)
	s := fmt.Sprint(beam.Check(b), toldBent(x), g)
	for _, w := range append([]api.Wish{{}, {Kind: api.Bend, At: "-1"}}, wishes...) {
		l, g := beam.Line(b, w)
		s += fmt.Sprint("\n", toldPieces(l), g)
	}
	return s
}

// roomy has every list with some room behind it, filled like the list.
func roomy(b api.Beam) api.Beam {
	b.Props, b.Puts = slices.Repeat(b.Props, 2), slices.Repeat(b.Puts, 2)
	return b
}

func TestOnlyRead(t *testing.T) {
	odd := drawn("08/2", "2/2", "x=03/6 2/2!=y 4=1/0", "p02/2:-0 e0..16/4:6/4 tq:9")
	loose := drawn("4", "1", "1=1", "p1:1")
	outOfOrder := drawn("4", "1", "1 0", "p1:1")
	noKind := drawn("4", "1", "0=1 1=2", "p1:1 q1:1 p3:1")
	for _, b := range []api.Beam{plain(), odd, loose, outOfOrder, noKind, drawn("4", "1", "0=5 4=6", "p3:1 p2:1 p1:1"), {}} {
		given := roomy(b)
		part := given
		part.Props, part.Puts = given.Props[:len(b.Props)], given.Puts[:len(b.Puts)]
		first := allOf(part)
		if !reflect.DeepEqual(given, roomy(b)) {
			t.Errorf("what was handed in has become %v", given)
		}
		if again := allOf(part); again != first {
			t.Errorf("%s, then %s", first, again)
		}
	}
}

// Lists that have nothing in them may be nil or empty.
func TestEmptyLists(t *testing.T) {
	b := drawn("4", "1", "", "")
	empty := b
	empty.Props, empty.Puts = []api.Prop{}, []api.Put{}
	if allOf(b) != allOf(empty) {
		t.Errorf("%s, but %s", allOf(b), allOf(empty))
	}
	b.Props = []api.Prop{{At: "1", Fast: true}}
	empty.Props = b.Props
	if allOf(b) != allOf(empty) {
		t.Errorf("%s, but %s", allOf(b), allOf(empty))
	}
}

// filled writes over a whole list, the room behind it, too.
func filled[T any](l []T, with T) {
	l = l[:cap(l)]
	for i := range l {
		l[i] = with
	}
}

// apart fails if writing over each of the lists of an answer is seen in another one, in b, or in a later answer.
func apart(t *testing.T, b api.Beam, lists []*[]api.Q, pieces []api.Piece) {
	t.Helper()
	before := allOf(b)
	for i, l := range lists {
		others := func() string {
			s := fmt.Sprint(b)
			for k, o := range lists {
				if k != i {
					s += fmt.Sprint(*o)
				}
			}
			return s
		}
		told := others()
		filled(*l, "99")
		if after := others(); after != told {
			t.Errorf("list %d: %s, then %s", i, told, after)
		}
	}
	filled(pieces, api.Piece{From: "7"})
	if after := allOf(b); after != before {
		t.Errorf("%s, then %s", before, after)
	}
}

func polynomials(pieces []api.Piece) []*[]api.Q {
	var l []*[]api.Q
	for _, p := range pieces {
		l = append(l, &p.P)
	}
	return l
}

func TestListsOfTheirOwn(t *testing.T) {
	b := plain()
	b.Props[1].By = "2"
	x, _ := beam.Solve(b)
	apart(t, b, append(polynomials(x.Rise), &x.Pushes, &x.Twists), x.Rise)
	for _, w := range wishes {
		l, _ := beam.Line(b, w)
		apart(t, b, polynomials(l), l)
	}
}
