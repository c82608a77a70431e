package rig_test

import (
	"fmt"
	"math/big"
	"math/rand"
	"reflect"
	"regexp"
	"strings"
	"testing"

	"rafter/api"
	"rafter/rig"
)

const trussText = `joint 0 0
joint 2 0
joint 1 3/2
joint 3 3/2
bar 0 1 1 0 -1 1
bar 0 2 1 0 -1 1
bar 1 2 1 0 -1 1
bar 3 1 1 0 -1 1
bar 2 3 1 0 -1 1
hold 0 x 0
hold 0 y 0
hold 1 y 0
`

func TestPrint(t *testing.T) {
	wild := api.Frame{
		Joints: []api.Spot{spot("08/5", "1/010"), spot("-007", "1/00"), spot("", "one")},
		Bars:   []api.Bar{{A: 2, B: 0, C: "10/4", E: "-6/3", Least: "-0/9", Most: "12345678901234567890123/3"}, {A: 0, B: 1, C: "1", Least: "-1/+1", Most: "0x1"}},
		Holds:  []api.Hold{{Joint: 2, Way: api.Up, By: "-5/10"}, {Joint: 1, Way: api.Along, By: "--1"}},
	}
	for _, c := range []struct {
		what string
		f    api.Frame
		want string
	}{
		{"a truss", truss(), trussText},
		{"one joint", api.Frame{Joints: []api.Spot{{}}}, "joint 0 0\n"},
		{"not in lowest terms", wild, "joint 8/5 1/10\njoint -7 0\njoint 0 0\nbar 2 0 5/2 -2 0 4115226300411522630041\nbar 0 1 1 0 0 0\nhold 2 y -1/2\nhold 1 x 0\n"},
	} {
		if s, e := rig.Print(c.f); s != c.want || e != (api.Fault{}) {
			t.Errorf("%s: %q %v, want %q", c.what, s, e, c.want)
		}
	}
}

// frameOf is the frame whose text has n bytes: its last fraction is long enough.
func frameOf(n int) (api.Frame, string) {
	long := strings.Repeat("7", n-len("joint 0 \n"))
	return api.Frame{Joints: []api.Spot{spot("0", api.Q(long))}}, "joint 0 " + long + "\n"
}

func TestLongTexts(t *testing.T) {
	f, text := frameOf(api.MaxText)
	if s, e := rig.Print(f); s != text || e != (api.Fault{}) {
		t.Errorf("Print: %d bytes, %v, want %d", len(s), e, len(text))
	}
	if g, e := rig.Parse(text); !reflect.DeepEqual(g, f) || e != (api.Fault{}) {
		t.Errorf("Parse: %v %v", g, e)
	}
	f, text = frameOf(api.MaxText + 1)
	if s, e := rig.Print(f); s != "" || e != fault(api.ErrMany, 0) {
		t.Errorf("Print of one more: %d bytes, %v", len(s), e)
	}
	for what, long := range map[string]string{
		"one more":                text,
		"no line":                 strings.Repeat("z", api.MaxText+1),
		"behind a line of no use": "words\n" + text,
		"many bytes":              strings.Repeat("joint 0 0\n", 1<<16),
	} {
		refused(t, what, long, fault(api.ErrMany, 0))
	}
	refused(t, "no line, just not too long", strings.Repeat("z", api.MaxText), fault(api.ErrText, 0))
	over := turned(truss(), func(f *api.Frame) {
		for i := range f.Bars {
			f.Bars[i].Most = api.Q(strings.Repeat("3", 800))
		}
	})
	if s, e := rig.Print(over); s != "" || e != fault(api.ErrMany, 0) {
		t.Errorf("Print of many lines: %d bytes, %v", len(s), e)
	}
	short := turned(truss(), func(f *api.Frame) { f.Joints[0].X = api.Q("0" + strings.Repeat("0", api.MaxText)) })
	if s, e := rig.Print(short); s != trussText || e != (api.Fault{}) {
		t.Errorf("Print of noughts: %q %v", s, e)
	}
}

func TestCheckAheadOfLong(t *testing.T) {
	f, _ := frameOf(api.MaxText + 1)
	f.Holds = []api.Hold{hold(1, api.Up)}
	everywhere(t, "both", f, fault(api.ErrJoint, 0))
}

func refused(t *testing.T, what, text string, want api.Fault) {
	t.Helper()
	f, e := rig.Parse(text)
	if e != want || len(f.Joints)+len(f.Bars)+len(f.Holds) != 0 {
		t.Errorf("%s: %v %v, want %v", what, f, e, want)
	}
}

func TestParse(t *testing.T) {
	for _, f := range []api.Frame{truss(), most(), {Joints: []api.Spot{spot("-1/2", "5")}}} {
		s, _ := rig.Print(f)
		if g, e := rig.Parse(s); !reflect.DeepEqual(g, f) || e != (api.Fault{}) {
			t.Errorf("%q: %v %v, want %v", s, g, e, f)
		}
	}
}

func TestWrongLines(t *testing.T) {
	for _, line := range []string{
		"", " ", "joint", "joint ", "joint 0", "joint 0 ", "joint  0", "joint 0 0 ", " joint 0 0", "joint 0  0", "joint 0 0 0",
		"joint\t0 0", "joint 0 0\r", "Joint 0 0", "joints 0 0", "spot 0 0", "joint0 0", "joint 0 0\x00", "joint 0,0", "# joint 0 0",
		// no fractions, and such as aren't in lowest terms
		"joint 1 x", "joint 1 1.5", "joint 1 -", "joint 1 /", "joint 1 1/", "joint 1 /2", "joint 1 +1", "joint 1 --1", "joint 1 1/-2", "joint 1 1/2/3",
		"joint 00 1", "joint 01 1", "joint -0 1", "joint 0/1 1", "joint 2/1 1", "joint 2/4 1", "joint 1/0 1", "joint 0/0 1", "joint 1/02 1", "joint -01 1", "joint -6/4 1",
		"joint \u0663 1", "joint 1 \uff11",
		"bar", "bar 0 1", "bar 0 1 1 0 -1", "bar 0 1 1 0 -1 1 1", "bar 0 1 1 0 -1 1 ", "bar 0 1 1 0 -1  1",
		"bar 10 1 1 0 -1 1", "bar 0 01 1 0 -1 1", "bar -1 1 1 0 -1 1", "bar 0 -0 1 0 -1 1", "bar a 1 1 0 -1 1", "bar 0  1 0 -1 1", "bar 1/1 0 1 0 -1 1", "bar / 0 1 0 -1 1", "bar 0 : 1 0 -1 1",
		"bar 0 1 2/2 0 -1 1", "bar 0 1 1 -0 -1 1", "bar 0 1 1 0 -1/1 1", "bar 0 1 1 0 -1 one", "bar 0 1 x 0 -1 1",
		"hold", "hold 0 x", "hold 0 0", "hold 0 x 0 0", "hold x 0 0", "hold 0 z 0", "hold 0 X 0", "hold 0 1 0", "hold 0 2 0", "hold 0  0", "hold 0 xy 0",
		"hold 10 x 0", "hold 00 x 0", "hold -1 x 0", "hold a x 0", "hold 0 x", "hold 0 x -0", "hold 0 x 3/6", "hold 0 y word", "hold 0 y 0 ",
	} {
		refused(t, "alone: "+line, line+"\n", fault(api.ErrText, 0))
		refused(t, "behind a joint: "+line, "joint 0 0\n"+line+"\n", fault(api.ErrText, 1))
		refused(t, "ahead of another: "+line, "joint 0 0\n"+line+"\nwords\n", fault(api.ErrText, 1))
		refused(t, "at the end: "+line, trussText+line+"\n", fault(api.ErrText, 12))
	}
}

func TestWrongTexts(t *testing.T) {
	for _, c := range []struct {
		what, text string
		want       api.Fault
	}{
		{"nothing", "", fault(api.ErrMany, 0)},
		{"a line feed", "\n", fault(api.ErrText, 0)},
		{"no line feed", "joint 0 0", fault(api.ErrText, 0)},
		{"no line feed at the end", strings.TrimSuffix(trussText, "\n"), fault(api.ErrText, 11)},
		{"one line feed more", trussText + "\n", fault(api.ErrText, 12)},
		{"a line feed ahead", "\n" + trussText, fault(api.ErrText, 0)},
		{"two carriage returns", "joint 0 0\r\njoint 1 0\r\n", fault(api.ErrText, 0)},
		// lines of a kind behind a later one
		{"a joint behind a bar", "joint 0 0\nbar 0 1 1 0 0 0\njoint 1 0\n", fault(api.ErrText, 2)},
		{"a joint behind a hold", "joint 0 0\nhold 0 x 0\njoint 1 0\n", fault(api.ErrText, 2)},
		{"a bar behind a hold", "joint 0 0\njoint 1 0\nhold 0 x 0\nbar 0 1 1 0 0 0\n", fault(api.ErrText, 3)},
		{"a joint behind a bar that isn't right", "bar 7 7 0 0 1 -1\njoint 1 0\n", fault(api.ErrText, 1)},
		{"the first of several", "joint 0 0\nhold 0 x 0\njoint 1 0\nwords", fault(api.ErrText, 2)},
		{"the last line without end, behind an earlier one", "joint 0 0\njoint 1\njoint 0 0", fault(api.ErrText, 1)},
		// Check's
		{"no joints", "hold 0 x 0\n", fault(api.ErrMany, 0)},
		{"too many joints", strings.Repeat("joint 0 0\n", api.MaxJoints+1), fault(api.ErrMany, 0)},
		{"too many bars", "joint 0 0\njoint 1 0\n" + strings.Repeat("bar 0 1 1 0 0 0\n", api.MaxBars+1), fault(api.ErrMany, 0)},
		{"too many holds", "joint 0 0\n" + strings.Repeat("hold 0 x 0\n", api.MaxHolds+1), fault(api.ErrMany, 0)},
		{"no such joint", "joint 0 0\nbar 0 9 1 0 0 0\n", fault(api.ErrJoint, 0)},
		{"no length", "joint 0 0\njoint 1 0\nbar 0 1 1 0 0 0\nbar 1 1 1 0 0 0\n", fault(api.ErrValue, 1)},
		{"soft", "joint 0 0\njoint 1 0\nbar 0 1 -1 0 0 0\n", fault(api.ErrValue, 0)},
		{"limits", "joint 0 0\njoint 1 0\nbar 0 1 1 0 1/2 0\n", fault(api.ErrValue, 0)},
		{"a hold of no joint", trussText + "hold 4 x 0\n", fault(api.ErrJoint, 8)},
		{"twice", trussText + "hold 0 y 1\n", fault(api.ErrTwice, 8)},
		// a text's own faults go ahead
		{"the line ahead of the joint", "joint 0 0\nbar 0 9 1 0 0 0\nhold 0 z 0\n", fault(api.ErrText, 2)},
		{"the line ahead of too many", strings.Repeat("joint 0 0\n", 99) + "joint", fault(api.ErrText, 99)},
	} {
		refused(t, c.what, c.text, c.want)
	}
}

// reader reads texts by patterns, and fractions by the library: another way than the program's.
type reader struct{ joint, bar, hold *regexp.Regexp }

func newReader() reader {
	const q = ` (-?[0-9]+(?:/[0-9]+)?)`
	return reader{
		joint: regexp.MustCompile(`^joint` + q + q + `\n$`),
		bar:   regexp.MustCompile(`^bar ([0-9]) ([0-9])` + q + q + q + q + `\n$`),
		hold:  regexp.MustCompile(`^hold ([0-9]) ([xy])` + q + `\n$`),
	}
}

func inLowestTerms(words []string) bool {
	for _, w := range words {
		top, low, barred := strings.Cut(w, "/")
		a, _ := new(big.Int).SetString(top, 10)
		b := big.NewInt(1)
		if barred {
			b, _ = new(big.Int).SetString(low, 10)
		}
		if b.Sign() == 0 || new(big.Rat).SetFrac(a, b).RatString() != w {
			return false
		}
	}
	return true
}

// wrongLine is the number of the first line of text that isn't as it must be; -1: none.
func (r reader) wrongLine(text string) int {
	last := 0
	for i, line := range strings.SplitAfter(text, "\n") {
		if line == "" { // behind the last line feed
			break
		}
		kind, skip := 0, 1
		m := r.joint.FindStringSubmatch(line)
		if m == nil {
			kind, skip, m = 1, 3, r.bar.FindStringSubmatch(line)
		}
		if m == nil {
			kind, skip, m = 2, 3, r.hold.FindStringSubmatch(line)
		}
		if m == nil || kind < last || !inLowestTerms(m[skip:]) {
			return i
		}
		last = kind
	}
	return -1
}

func randomFrame(r *rand.Rand) api.Frame {
	q := func(from, to int) api.Q {
		return api.Q(big.NewRat(int64(from+r.Intn(to-from+1)), int64(1+r.Intn(6))).RatString())
	}
	var f api.Frame
	for range 1 + r.Intn(6) {
		f.Joints = append(f.Joints, spot(q(-9, 9), q(-9, 9)))
	}
	n := len(f.Joints)
	for range r.Intn(7) {
		f.Bars = append(f.Bars, api.Bar{A: r.Intn(n), B: r.Intn(n), C: q(1, 9), E: q(-9, 9), Least: q(-9, 0), Most: q(0, 9)})
	}
	for range r.Intn(4) {
		f.Holds = append(f.Holds, api.Hold{Joint: r.Intn(n), Way: 1 + r.Intn(2), By: q(-9, 9)})
	}
	return f
}

func TestThereAndBack(t *testing.T) {
	r := rand.New(rand.NewSource(2))
	right := 0
	for range 4000 {
		f := randomFrame(r)
		s, e := rig.Print(f)
		if e.Code != api.OK {
			continue
		}
		right++
		g, e := rig.Parse(s)
		if !reflect.DeepEqual(f, g) || e != (api.Fault{}) {
			t.Fatalf("%q: %v %v, want %v", s, g, e, f)
		}
		if again, e := rig.Print(g); again != s || e != (api.Fault{}) {
			t.Fatalf("%q, then %q %v", s, again, e)
		}
	}
	if right < 1000 {
		t.Errorf("only %d frames were right", right)
	}
}

// spoiled changes one place or two of a text.
func spoiled(r *rand.Rand, s string) string {
	pieces := []string{"0", "1", "9", "-", "/", " ", "\n", "x", "y", "z", "joint", "bar", "hold", "joint 1 1\n", "bar 0 1 1 0 0 0\n", "\r", "\x00"}
	for range 1 + r.Intn(2) {
		at := r.Intn(len(s) + 1)
		to := min(len(s), at+r.Intn(3))
		s = s[:at] + pieces[r.Intn(len(pieces))] + s[to:]
	}
	return s
}

func TestSpoiledTexts(t *testing.T) {
	r := rand.New(rand.NewSource(5))
	reader := newReader()
	for range 20000 {
		s, e := rig.Print(randomFrame(r))
		if e.Code != api.OK {
			continue
		}
		s = spoiled(r, s)
		f, got := rig.Parse(s)
		wrong := reader.wrongLine(s)
		if wrong >= 0 && (got != fault(api.ErrText, wrong) || !reflect.DeepEqual(f, api.Frame{})) {
			t.Fatalf("%q: %v %v, want line %d", s, f, got, wrong)
		}
		if wrong < 0 && got.Code == api.ErrText {
			t.Fatalf("%q: %v", s, got)
		}
		if wrong < 0 && got.Code == api.OK {
			if again, e := rig.Print(f); again != s || e != (api.Fault{}) {
				t.Fatalf("%q: %q %v", s, again, e)
			}
		}
	}
}

func TestListsOfTheirOwn(t *testing.T) {
	a, _ := rig.Parse(trussText)
	b, _ := rig.Parse(trussText)
	before := fmt.Sprint(b)
	a.Joints[0], a.Bars[0], a.Holds[0] = spot("9", "9"), bar(3, 2), hold(3, api.Up)
	if after := fmt.Sprint(b); after != before {
		t.Errorf("%s, want %s", after, before)
	}
}
