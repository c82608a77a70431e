package force_test

import (
	"fmt"
	"math/big"
	"math/rand"
	"slices"
	"strings"
	"testing"

	"rafter/api"
	"rafter/force"
)

func spot(x, y api.Q) api.Spot { return api.Spot{X: x, Y: y} }

func pull(atX, atY, wayX, wayY api.Q) api.Force {
	return api.Force{At: spot(atX, atY), Way: spot(wayX, wayY)}
}

func copies(f api.Force, n int) []api.Force { return slices.Repeat([]api.Force{f}, n) }

func TestTotal(t *testing.T) {
	bent := []api.Force{pull("1", "2", "3", "4"), pull("-1/2", "1/3", "-5", "6/7")}
	for _, c := range []struct {
		what  string
		l     []api.Force
		about api.Spot
		way   api.Spot
		turn  api.Q
	}{
		{"nil", nil, spot("3", "4"), spot("0", "0"), "0"},
		{"empty", []api.Force{}, spot("3", "4"), spot("0", "0"), "0"},
		{"one at the place itself", []api.Force{pull("3", "4", "5", "6")}, spot("3", "4"), spot("5", "6"), "0"},
		{"from right to up is above 0", []api.Force{pull("1", "0", "0", "1")}, spot("0", "0"), spot("0", "1"), "1"},
		{"from up to right is below 0", []api.Force{pull("0", "1", "1", "0")}, spot("0", "0"), spot("1", "0"), "-1"},
		{"around the origin", bent, spot("0", "0"), spot("-2", "34/7"), "-16/21"},
		{"around another place", bent, spot("1/2", "-3/4"), spot("-2", "34/7"), "-71/42"},
		{"a couple", []api.Force{pull("2/3", "0", "0", "3"), pull("0", "0", "0", "-3")}, spot("-9", "1/9"), spot("0", "0"), "2"},
	} {
		way, turn, e := force.Total(c.l, c.about)
		if way != c.way || turn != c.turn || e != api.OK {
			t.Errorf("%s: %v %v %v, want %v %v", c.what, way, turn, e, c.way, c.turn)
		}
	}
}

func TestSum(t *testing.T) {
	rest := api.Sum{Kind: api.Rest, Way: spot("0", "0"), Turn: "0", At: spot("0", "0")}
	for _, c := range []struct {
		what string
		l    []api.Force
		want api.Sum
	}{
		{"nil", nil, rest},
		{"empty", []api.Force{}, rest},
		{"a force of nothing", []api.Force{pull("5", "6", "0", "0")}, rest},
		{"a zero value", make([]api.Force, 3), rest},
		{"against each other on one line", []api.Force{pull("0", "0", "1/2", "1/2"), pull("3", "3", "-1/2", "-1/2")}, rest},
		{"three that are at rest", []api.Force{pull("0", "0", "1", "0"), pull("0", "0", "0", "1"), pull("2", "2", "-1", "-1")}, rest},
		{"a couple", []api.Force{pull("1", "0", "0", "1"), pull("0", "0", "0", "-1")},
			api.Sum{Kind: api.Couple, Way: spot("0", "0"), Turn: "1", At: spot("0", "0")}},
		{"a couple the other way", []api.Force{pull("0", "3/2", "4", "0"), pull("7", "0", "-4", "0")},
			api.Sum{Kind: api.Couple, Way: spot("0", "0"), Turn: "-6", At: spot("0", "0")}},
		{"single, through the origin", []api.Force{pull("4", "6", "2", "3")},
			api.Sum{Kind: api.Single, Way: spot("2", "3"), Turn: "0", At: spot("0", "0")}},
		{"single, X alone", []api.Force{pull("9", "2", "5", "0")},
			api.Sum{Kind: api.Single, Way: spot("5", "0"), Turn: "-10", At: spot("0", "2")}},
		{"single, Y alone", []api.Force{pull("-1/3", "8", "0", "-2")},
			api.Sum{Kind: api.Single, Way: spot("0", "-2"), Turn: "2/3", At: spot("-1/3", "0")}},
		{"single, aslant", []api.Force{pull("1", "0", "1", "1")},
			api.Sum{Kind: api.Single, Way: spot("1", "1"), Turn: "1", At: spot("1/2", "-1/2")}},
		{"single, of two", []api.Force{pull("0", "0", "0", "-1"), pull("3", "0", "0", "-2")},
			api.Sum{Kind: api.Single, Way: spot("0", "-3"), Turn: "-6", At: spot("2", "0")}},
		{"single, of a couple and a force", []api.Force{pull("1", "0", "0", "6"), pull("0", "0", "0", "-6"), pull("0", "0", "-3", "0")},
			api.Sum{Kind: api.Single, Way: spot("-3", "0"), Turn: "6", At: spot("0", "2")}},
	} {
		s, e := force.Sum(c.l)
		if s != c.want || e != api.OK {
			t.Errorf("%s: %v %v, want %v", c.what, s, e, c.want)
		}
	}
}

func TestAlike(t *testing.T) {
	couple := []api.Force{pull("1", "0", "0", "1"), pull("0", "0", "0", "-1")}
	for _, c := range []struct {
		what string
		a, b []api.Force
		want bool
	}{
		{"nothing and nothing", nil, []api.Force{}, true},
		{"nothing and what is at rest", nil, []api.Force{pull("1", "1", "2", "2"), pull("0", "0", "-2", "-2")}, true},
		{"nothing and a couple", nil, couple, false},
		{"a couple and another that turns so", couple, []api.Force{pull("0", "1/2", "-2", "0"), pull("0", "0", "2", "0")}, true},
		{"a couple and its opposite", couple, []api.Force{pull("0", "1", "1", "0"), pull("0", "0", "-1", "0")}, false},
		{"one shifted along its line", []api.Force{pull("1", "1", "2", "3")}, []api.Force{pull("3", "4", "2", "3")}, true},
		{"one shifted off its line", []api.Force{pull("1", "1", "2", "3")}, []api.Force{pull("3", "5", "2", "3")}, false},
		{"another X", []api.Force{pull("0", "0", "2", "3")}, []api.Force{pull("0", "0", "1", "3")}, false},
		{"another Y", []api.Force{pull("0", "0", "2", "3")}, []api.Force{pull("0", "0", "2", "4")}, false},
		{"the same, written otherwise", []api.Force{pull("2/4", "-0", "06", "9/3")}, []api.Force{pull("1/2", "0", "6", "3")}, true},
		{"many and one", copies(pull("1/60", "2/60", "1/60", "0"), 60), []api.Force{pull("5", "1/30", "1", "0")}, true},
	} {
		for _, turned := range []bool{false, true} {
			a, b := c.a, c.b
			if turned {
				a, b = b, a
			}
			if got, e := force.Alike(a, b); got != c.want || e != api.OK {
				t.Errorf("%s (turned: %v): %v %v", c.what, turned, got, e)
			}
		}
	}
}

func TestTooMany(t *testing.T) {
	f := pull("1", "2", "3", "4")
	full, over := copies(f, api.MaxForces), copies(f, api.MaxForces+1)
	if way, turn, e := force.Total(full, spot("0", "0")); way != spot("180", "240") || turn != "-120" || e != api.OK {
		t.Errorf("Total of the most: %v %v %v", way, turn, e)
	}
	if way, turn, e := force.Total(over, spot("1", "1")); way != (api.Spot{}) || turn != "" || e != api.ErrMany {
		t.Errorf("Total of one more: %v %q %v", way, turn, e)
	}
	want := api.Sum{Kind: api.Single, Way: spot("180", "240"), Turn: "-120", At: spot("-8/25", "6/25")}
	if s, e := force.Sum(full); s != want || e != api.OK {
		t.Errorf("Sum of the most: %v %v", s, e)
	}
	if s, e := force.Sum(over); s != (api.Sum{}) || e != api.ErrMany {
		t.Errorf("Sum of one more: %v %v", s, e)
	}
	if same, e := force.Alike(full, full); !same || e != api.OK {
		t.Errorf("Alike of the most: %v %v", same, e)
	}
	for _, c := range [][2][]api.Force{{over, full}, {full, over}, {over, over}, {nil, over}, {over, nil}} {
		if same, e := force.Alike(c[0], c[1]); same || e != api.ErrMany {
			t.Errorf("Alike of %d and %d: %v %v", len(c[0]), len(c[1]), same, e)
		}
	}
}

// TestNoFractions: what isn't written as a fraction counts as 0, wherever it stands.
func TestNoFractions(t *testing.T) {
	for _, bad := range []api.Q{"", "-", "/", "+1", "--1", "1/", "/1", "1/-1", "1/1/1", " 1", "1 ", "1.0", "1e1", "0x1", "one", "1/0", "-1/0", "0/0", "1/000", "\u0661", "1\x00", "\xff"} {
		l := []api.Force{pull(bad, "2", "3", "4"), pull("1", bad, "3", "4"), pull("1", "2", bad, "4"), pull("1", "2", "3", bad)}
		nought := []api.Force{pull("0", "2", "3", "4"), pull("1", "0", "3", "4"), pull("1", "2", "0", "4"), pull("1", "2", "3", "0")}
		if same, e := force.Alike(l, nought); !same || e != api.OK {
			t.Errorf("%q: not alike with 0: %v", bad, e)
		}
		s, _ := force.Sum(l)
		want := api.Sum{Kind: api.Single, Way: spot("9", "12"), Turn: "-4", At: spot("-16/75", "4/25")}
		if s != want {
			t.Errorf("%q: Sum: %v, want %v", bad, s, want)
		}
		way, turn, _ := force.Total(l, spot(bad, bad))
		if way != want.Way || turn != want.Turn {
			t.Errorf("%q: Total: %v %v", bad, way, turn)
		}
		if s, _ := force.Sum([]api.Force{pull(bad, bad, bad, bad)}); s.Kind != api.Rest || s.Way != spot("0", "0") {
			t.Errorf("%q alone: %v", bad, s)
		}
	}
}

func TestNotInLowestTerms(t *testing.T) {
	s, _ := force.Sum([]api.Force{pull("010/005", "-0/7", "-0", "0009/3")})
	if want := (api.Sum{Kind: api.Single, Way: spot("0", "3"), Turn: "6", At: spot("2", "0")}); s != want {
		t.Errorf("Sum: %v, want %v", s, want)
	}
	way, turn, _ := force.Total([]api.Force{pull("6/4", "0", "2/6", "-10/4")}, spot("-4/8", "00"))
	if way != spot("1/3", "-5/2") || turn != "-5" {
		t.Errorf("Total: %v %v", way, turn)
	}
}

// turning is what turns around a place, worked out anew.
func turning(l []api.Force, about api.Spot) (x, y, turn *big.Rat) {
	x, y, turn = new(big.Rat), new(big.Rat), new(big.Rat)
	for _, f := range l {
		wayX, wayY := rat(f.Way.X), rat(f.Way.Y)
		x.Add(x, wayX)
		y.Add(y, wayY)
		armX, armY := rat(f.At.X), rat(f.At.Y)
		armX.Sub(armX, rat(about.X)).Mul(armX, wayY)
		armY.Sub(armY, rat(about.Y)).Mul(armY, wayX)
		turn.Add(turn, armX.Sub(armX, armY))
	}
	return x, y, turn
}

// rat reads in tens, noughts ahead or not; big.Rat itself would take such for eights.
func rat(q api.Q) *big.Rat {
	top, low, barred := strings.Cut(string(q), "/")
	if !barred {
		low = "1"
	}
	a, okA := new(big.Int).SetString(top, 10)
	b, okB := new(big.Int).SetString(low, 10)
	if !okA || !okB {
		panic("no fraction: " + string(q))
	}
	return new(big.Rat).SetFrac(a, b)
}

func randomQ(r *rand.Rand, digits int) api.Q {
	var b strings.Builder
	if r.Intn(2) == 0 {
		b.WriteByte('-')
	}
	for range digits {
		b.WriteByte(byte('0' + r.Intn(10)))
	}
	if r.Intn(3) > 0 {
		b.WriteString("/1")
		for range digits - 1 {
			b.WriteByte(byte('0' + r.Intn(10)))
		}
	}
	return api.Q(b.String())
}

func randomSpot(r *rand.Rand, digits int) api.Spot {
	return spot(randomQ(r, digits), randomQ(r, digits))
}

func randomForces(r *rand.Rand, n, digits int) []api.Force {
	l := make([]api.Force, n)
	for i := range l {
		l[i] = api.Force{At: randomSpot(r, digits), Way: randomSpot(r, digits)}
	}
	return l
}

// opposites pull against l, at the same places or, if shift isn't 0, that much to the right.
func opposites(l []api.Force, shift int64) []api.Force {
	var against []api.Force
	for _, f := range l {
		atX := rat(f.At.X)
		atX.Add(atX, big.NewRat(shift, 1))
		wayX, wayY := rat(f.Way.X), rat(f.Way.Y)
		wayX.Neg(wayX)
		wayY.Neg(wayY)
		against = append(against, pull(api.Q(atX.RatString()), f.At.Y, api.Q(wayX.RatString()), api.Q(wayY.RatString())))
	}
	return against
}

func brief(x any) string { return fmt.Sprintf("%.400s", fmt.Sprint(x)) }

// checkSum holds all that the chapter says of l against a reckoning of its own.
func checkSum(t *testing.T, l []api.Force, about api.Spot) {
	t.Helper()
	x, y, turn := turning(l, about)
	way, u, e := force.Total(l, about)
	if way != spot(api.Q(x.RatString()), api.Q(y.RatString())) || u != api.Q(turn.RatString()) || e != api.OK {
		t.Fatalf("Total of %s around %s: %s %s %v", brief(l), brief(about), brief(way), brief(u), e)
	}
	_, _, turn = turning(l, spot("0", "0"))
	s, e := force.Sum(l)
	if s.Way != way || s.Turn != api.Q(turn.RatString()) || e != api.OK {
		t.Fatalf("Sum of %s: %s %v", brief(l), brief(s), e)
	}
	kind := api.Single
	if x.Sign() == 0 && y.Sign() == 0 {
		kind = api.Couple
		if turn.Sign() == 0 {
			kind = api.Rest
		}
	}
	if s.Kind != kind || kind != api.Single && s.At != spot("0", "0") {
		t.Fatalf("Sum of %s: %s, want the kind %d", brief(l), brief(s), kind)
	}
	if kind != api.Single {
		return
	}
	single := []api.Force{{At: s.At, Way: s.Way}}
	if same, _ := force.Alike(l, single); !same {
		t.Fatalf("%s isn't alike with its single force %s", brief(l), brief(single))
	}
	if _, elsewhere, _ := force.Total(single, about); elsewhere != u {
		t.Fatalf("%s: its single force turns by %s around %s, not by %s", brief(l), brief(elsewhere), brief(about), brief(u))
	}
	along := new(big.Rat).Mul(rat(s.At.X), x)
	if along.Add(along, new(big.Rat).Mul(rat(s.At.Y), y)).Sign() != 0 {
		t.Fatalf("%s: %s isn't the nearest place", brief(l), brief(s.At))
	}
}

func TestAgainstBig(t *testing.T) {
	r := rand.New(rand.NewSource(1))
	for i := range 600 {
		digits := []int{1, 2, 5, 30}[i%4]
		l := randomForces(r, r.Intn(7), digits)
		checkSum(t, l, randomSpot(r, digits))
		checkSum(t, append(l, opposites(l, int64(i%2))...), randomSpot(r, digits))
	}
	checkSum(t, randomForces(r, api.MaxForces, 25), randomSpot(r, 25))
}

func TestManyDigits(t *testing.T) {
	r := rand.New(rand.NewSource(2))
	checkSum(t, randomForces(r, 3, 1200), randomSpot(r, 1200))
	checkSum(t, randomForces(r, 1, 6000), randomSpot(r, 10))
	long := api.Q("1" + strings.Repeat("0", 5000))
	s, _ := force.Sum([]api.Force{pull(long, "0", "0", "1/"+long), pull("0", "0", "0", "-1/"+long)})
	if s != (api.Sum{Kind: api.Couple, Way: spot("0", "0"), Turn: "1", At: spot("0", "0")}) {
		t.Errorf("a couple of long arms: %s", brief(s))
	}
}

// TestOnlyRead: neither a list nor the room behind it is changed, and what is changed afterwards is no longer seen.
func TestOnlyRead(t *testing.T) {
	room := []api.Force{pull("2/4", "-0", "03", "1/0"), pull("x", "1", "5/5", "6"), pull("7", "8/2", "9", "10"), pull("4/2", "", "6/9", "+")}
	kept := slices.Clone(room)
	a, b := room[:2], room[1:3]
	about := spot("4/6", "00")
	way, turn, _ := force.Total(a, about)
	first, _ := force.Sum(a)
	same, _ := force.Alike(a, b)
	if !slices.Equal(room, kept) || about != spot("4/6", "00") {
		t.Fatalf("changed: %v", room)
	}
	if again, _ := force.Alike(b, a); same || again {
		t.Error("Alike of two that aren't")
	}
	told := fmt.Sprint(way, turn, first)
	wayAgain, turnAgain, _ := force.Total(a, about)
	sumAgain, _ := force.Sum(a)
	if fmt.Sprint(wayAgain, turnAgain, sumAgain) != told {
		t.Error("what is answered hangs on more than what is handed in")
	}
	clear(room)
	if fmt.Sprint(way, turn, first) != told {
		t.Error("an answer changed with the list")
	}
	if s, _ := force.Sum(a); s.Kind != api.Rest {
		t.Errorf("a list was kept: %v", s)
	}
}
