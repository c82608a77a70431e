package beam_test

import (
	"math"
	"slices"
	"testing"

	"rafter/api"
	"rafter/beam"
)

// wishes are one of each kind that may be asked of plain.
var wishes = []api.Wish{{Kind: api.Push, N: 1}, {Kind: api.Shear, At: "2"}, {Kind: api.Bend, At: "2"}}

// plain is a beam with three props and four puts, in which nothing is wrong.
func plain() api.Beam { return drawn("4", "1", "0 2! 7/2", "p1:1 t2:2 e3..4:3 e0..1:4") }

// wrong holds what Check and Solve tell against want.
func wrong(t *testing.T, what string, b api.Beam, want api.Fault) {
	t.Helper()
	if g := beam.Check(b); g != want {
		t.Errorf("%s: Check: %v, want %v", what, g, want)
	}
	if x, g := beam.Solve(b); x.Rise != nil || x.Pushes != nil || x.Twists != nil || g != want {
		t.Errorf("%s: Solve: %v %v, want %v", what, x, g, want)
	}
}

func notTold(t *testing.T, what string, b api.Beam, w api.Wish, want api.Fault) {
	t.Helper()
	if l, g := beam.Line(b, w); l != nil || g != want {
		t.Errorf("%s: Line: %v %v, want %v", what, l, g, want)
	}
}

// everywhere is of what isn't about puts: Line must tell it, too, whatever is wished.
func everywhere(t *testing.T, what string, b api.Beam, want api.Fault) {
	t.Helper()
	wrong(t, what, b, want)
	for _, w := range append([]api.Wish{{}, {Kind: 4}, {Kind: api.Push, N: -1}, {Kind: api.Bend, At: "-1"}}, wishes...) {
		notTold(t, what, b, w, want)
	}
}

func TestNothingWrong(t *testing.T) {
	full := drawn("4", "1", "0 1 2 3 7/2 4", "p0:1 p0:1 p4:1 t0:1 t4:1 e0..4:1 e0..4:1 e0..4:1")
	if len(full.Props) != api.MaxProps || len(full.Puts) != api.MaxPuts {
		t.Fatalf("%v isn't full", full)
	}
	for _, b := range []api.Beam{plain(), full, {Long: "1/1000", Stiff: "1/1000"}, drawn("1", "1", "0! 1!", ""), drawn("1", "1", "x", "pz:y t:1/0 e1/0..1:x"), drawn("1", "1", "0", "p0..7:1 t1..-1:1")} {
		if g := beam.Check(b); g != (api.Fault{}) {
			t.Errorf("%v: %v", b, g)
		}
	}
}

func TestFaultsOfBeams(t *testing.T) {
	for _, c := range []struct {
		what string
		turn func(b *api.Beam)
		want api.Fault
	}{
		{"too many props", func(b *api.Beam) { b.Props = make([]api.Prop, api.MaxProps+1) }, fault(api.ErrMany, 0)},
		{"many ahead of Long", func(b *api.Beam) { b.Props, b.Long = make([]api.Prop, 100), "0" }, fault(api.ErrMany, 0)},
		{"no Long", func(b *api.Beam) { b.Long = "" }, fault(api.ErrValue, 0)},
		{"Long 0", func(b *api.Beam) { b.Long = "0/7" }, fault(api.ErrValue, 0)},
		{"Long below 0", func(b *api.Beam) { b.Long = "-4" }, fault(api.ErrValue, 0)},
		{"Long no number", func(b *api.Beam) { b.Long = "4 " }, fault(api.ErrValue, 0)},
		{"Stiff 0", func(b *api.Beam) { b.Stiff = "0" }, fault(api.ErrValue, 0)},
		{"Stiff below 0", func(b *api.Beam) { b.Stiff = "-1/3" }, fault(api.ErrValue, 0)},
		{"Stiff over 0", func(b *api.Beam) { b.Stiff = "1/0" }, fault(api.ErrValue, 0)},
		{"Stiff ahead of a prop", func(b *api.Beam) { b.Stiff, b.Props[1].At = "", "-1" }, fault(api.ErrValue, 0)},
		{"the first prop below 0", func(b *api.Beam) { b.Props[0].At = "-1/9" }, fault(api.ErrValue, 0)},
		{"the last prop beyond Long", func(b *api.Beam) { b.Props[2].At = "41/10" }, fault(api.ErrValue, 2)},
		{"the first prop beyond Long", func(b *api.Beam) { b.Props[0].At = "5" }, fault(api.ErrValue, 0)},
		{"a prop at the one ahead", func(b *api.Beam) { b.Props[1].At = "-0" }, fault(api.ErrOrder, 1)},
		{"a prop at the one ahead, written otherwise", func(b *api.Beam) { b.Props[2].At = "06/3" }, fault(api.ErrOrder, 2)},
		{"a prop below the one ahead", func(b *api.Beam) { b.Props[2].At = "1" }, fault(api.ErrOrder, 2)},
		{"a prop of no number counts as 0", func(b *api.Beam) { b.Props[1].At = "two" }, fault(api.ErrOrder, 1)},
		{"the value ahead of the order", func(b *api.Beam) { b.Props[2].At = "-1" }, fault(api.ErrValue, 2)},
		{"the first prop of two", func(b *api.Beam) { b.Props[1].At, b.Props[2].At = "0", "9" }, fault(api.ErrOrder, 1)},
	} {
		b := plain()
		c.turn(&b)
		everywhere(t, c.what, b, c.want)
		b.Puts = []api.Put{{Kind: 7, At: "-1"}}
		everywhere(t, c.what+", ahead of a put", b, c.want)
	}
}

// Of puts Line says nothing.
func TestFaultsOfPuts(t *testing.T) {
	for _, c := range []struct {
		what string
		turn func(b *api.Beam)
		want api.Fault
	}{
		{"too many puts", func(b *api.Beam) { b.Puts = slices.Repeat(b.Puts[:1], api.MaxPuts+1) }, fault(api.ErrMany, 0)},
		{"many ahead of a kind", func(b *api.Beam) { b.Puts = make([]api.Put, api.MaxPuts+1) }, fault(api.ErrMany, 0)},
		{"no kind", func(b *api.Beam) { b.Puts[0].Kind = 0 }, fault(api.ErrKind, 3)},
		{"a kind above", func(b *api.Beam) { b.Puts[3].Kind = 4 }, fault(api.ErrKind, 6)},
		{"a kind far below", func(b *api.Beam) { b.Puts[1].Kind = math.MinInt }, fault(api.ErrKind, 4)},
		{"the kind ahead of the value", func(b *api.Beam) { b.Puts[1].Kind, b.Puts[1].At = -1, "-1" }, fault(api.ErrKind, 4)},
		{"a point below 0", func(b *api.Beam) { b.Puts[0].At = "-1" }, fault(api.ErrValue, 3)},
		{"a point beyond Long", func(b *api.Beam) { b.Puts[0].At = "4000001/1000000" }, fault(api.ErrValue, 3)},
		{"a twist below 0", func(b *api.Beam) { b.Puts[1].At = "-1/1000000" }, fault(api.ErrValue, 4)},
		{"a twist beyond Long", func(b *api.Beam) { b.Puts[1].At = "5" }, fault(api.ErrValue, 4)},
		{"an even load from below 0", func(b *api.Beam) { b.Puts[3].At = "-1" }, fault(api.ErrValue, 6)},
		{"an even load from beyond Long", func(b *api.Beam) { b.Puts[3].At = "5" }, fault(api.ErrValue, 6)},
		{"an even load to beyond Long", func(b *api.Beam) { b.Puts[3].To = "5" }, fault(api.ErrValue, 6)},
		{"an even load to below 0", func(b *api.Beam) { b.Puts[2].To = "-1" }, fault(api.ErrValue, 5)},
		{"an even load of no length", func(b *api.Beam) { b.Puts[2].To = "9/3" }, fault(api.ErrOrder, 5)},
		{"an even load back", func(b *api.Beam) { b.Puts[2].To = "1" }, fault(api.ErrOrder, 5)},
		{"an even load from 0 to no number", func(b *api.Beam) { b.Puts[3].To = "end" }, fault(api.ErrOrder, 6)},
		{"the first put of two", func(b *api.Beam) { b.Puts[1].At, b.Puts[2].Kind = "5", 0 }, fault(api.ErrValue, 4)},
		{"the first put of two, told otherwise", func(b *api.Beam) { b.Puts[2].To, b.Puts[3].Kind = "3", 0 }, fault(api.ErrOrder, 5)},
		{"no props", func(b *api.Beam) { b.Props, b.Puts[2].Kind = nil, 0 }, fault(api.ErrKind, 2)},
		{"one prop", func(b *api.Beam) { b.Props, b.Puts[3].To = b.Props[:1], "7" }, fault(api.ErrValue, 4)},
	} {
		b := plain()
		c.turn(&b)
		wrong(t, c.what, b, c.want)
		if len(b.Props) < 3 {
			continue
		}
		for _, w := range wishes {
			if l, g := beam.Line(b, w); len(l) == 0 || g != (api.Fault{}) {
				t.Errorf("%s: Line: %v %v", c.what, l, g)
			}
		}
	}
}

func TestFaultsOfWishes(t *testing.T) {
	loose := []api.Beam{drawn("4", "1", "", ""), drawn("4", "1", "0", ""), drawn("4", "1", "2=1", "p2:1"), drawn("4", "1", "4", "")}
	for _, b := range append(loose, plain(), drawn("4", "1", "1!", "")) {
		n := len(b.Props)
		for _, c := range []struct {
			what string
			w    api.Wish
			code api.Errno
		}{
			{"no kind", api.Wish{}, api.ErrKind},
			{"a kind above", api.Wish{Kind: 4}, api.ErrKind},
			{"a kind below", api.Wish{Kind: -1}, api.ErrKind},
			{"the kind alone", api.Wish{Kind: 9, N: -1, At: "-1"}, api.ErrKind},
			{"the prop behind the last", api.Wish{Kind: api.Push, N: n}, api.ErrJoint},
			{"a prop far behind", api.Wish{Kind: api.Push, N: math.MaxInt}, api.ErrJoint},
			{"a prop ahead of the first", api.Wish{Kind: api.Push, N: -1}, api.ErrJoint},
			{"a prop far ahead", api.Wish{Kind: api.Push, N: math.MinInt, At: "1"}, api.ErrJoint},
			{"no prop and no place", api.Wish{Kind: api.Push, N: n, At: "-1"}, api.ErrJoint},
			{"a shear below 0", api.Wish{Kind: api.Shear, At: "-1/7"}, api.ErrValue},
			{"a shear beyond Long", api.Wish{Kind: api.Shear, At: "5"}, api.ErrValue},
			{"a bending below 0", api.Wish{Kind: api.Bend, At: "-1"}, api.ErrValue},
			{"a bending beyond Long", api.Wish{Kind: api.Bend, At: "29/7", N: -1}, api.ErrValue},
		} {
			notTold(t, c.what, b, c.w, fault(c.code, n))
		}
	}
}

// A push falls down somewhere from a beam that isn't held: that is told ahead of its lying anyhow, if it is put at the one prop.
func TestLinesOfWhatIsNotHeld(t *testing.T) {
	for _, props := range []string{"", "0", "4", "1", "2=3"} {
		b := drawn("4", "1", props, "")
		for _, w := range []api.Wish{{Kind: api.Push}, {Kind: api.Shear, At: "0"}, {Kind: api.Shear, At: "4"}, {Kind: api.Bend, At: "0"}, {Kind: api.Bend, At: "1"}, {Kind: api.Bend, At: "3"}} {
			if w.Kind != api.Push || props != "" {
				notTold(t, "props "+props, b, w, fault(api.ErrNone, 0))
			}
		}
	}
}

// What a wish has no need of isn't looked at.
func TestNeedlessParts(t *testing.T) {
	b := plain()
	for _, c := range [][2]api.Wish{
		{{Kind: api.Push, N: 1}, {Kind: api.Push, N: 1, At: "-77"}},
		{{Kind: api.Shear, At: "1"}, {Kind: api.Shear, At: "1", N: 99}},
		{{Kind: api.Bend, At: "1"}, {Kind: api.Bend, At: "02/2", N: -1}},
	} {
		first, g := beam.Line(b, c[0])
		second, h := beam.Line(b, c[1])
		if toldPieces(first) != toldPieces(second) || len(first) == 0 || g != (api.Fault{}) || h != (api.Fault{}) {
			t.Errorf("%v: %v %v, %v %v", c, first, g, second, h)
		}
	}
}
