package rows

import (
	"fmt"
	"math/rand"
	"slices"
	"strings"
	"testing"

	"rafter/api"
	"rafter/num"
)

// read makes rows of a text: blanks between numbers, semicolons between rows.
func read(text string) []Row {
	var l []Row
	for line := range strings.SplitSeq(text, ";") {
		var r Row
		for _, w := range strings.Fields(line) {
			r = append(r, num.Of(api.Q(w)))
		}
		if r != nil {
			l = append(l, r)
		}
	}
	return l
}

func told(l []Row) string {
	var lines []string
	for _, r := range l {
		var words []string
		for _, x := range r {
			words = append(words, string(x.Q()))
		}
		lines = append(lines, strings.Join(words, " "))
	}
	return strings.Join(lines, "; ")
}

func TestRankAndNulls(t *testing.T) {
	for _, c := range []struct {
		text  string
		wide  int
		rank  int
		nulls string
	}{
		{"", 0, 0, ""},
		{"", 2, 0, "1 0; 0 1"},
		{"0 0; 0 0", 2, 0, "1 0; 0 1"},
		{"5 0; 0 -1/2", 2, 2, ""},
		{"1 2", 2, 1, "-2 1"},
		{"0 2", 2, 1, "1 0"},
		{"2 4; 3 6; 1/2 1", 2, 1, "-2 1"},
		{"1 2 3; 4 5 6; 7 8 9", 3, 2, "1 -2 1"},
		{"1 2 3; 4 5 6; 7 8 10", 3, 3, ""},
		{"0 0 1 1; 1 1 0 0", 4, 2, "-1 1 0 0; 0 0 -1 1"},
		{"0 0 1 1; 0 0 1 2", 4, 2, "1 0 0 0; 0 1 0 0"},
		{"1 1 1 1; 0 1 1 1", 4, 2, "0 -1 1 0; 0 -1 0 1"},
	} {
		if got := Rank(read(c.text), c.wide); got != c.rank {
			t.Errorf("%q: rank %d, want %d", c.text, got, c.rank)
		}
		if got := told(Nulls(read(c.text), c.wide)); got != c.nulls {
			t.Errorf("%q: %q, want %q", c.text, got, c.nulls)
		}
	}
}

func TestHeads(t *testing.T) {
	for _, c := range []struct {
		text string
		wide int
		want string
	}{
		{"", 0, "[]"},
		{"", 2, "[]"},
		{"0 0; 0 0", 2, "[]"},
		{"5 0; 0 -1/2", 2, "[0 1]"},
		{"0 2", 2, "[1]"},
		{"2 4; 3 6; 1/2 1", 2, "[0]"},
		{"0 0 1 1; 1 1 0 0", 4, "[0 2]"},
		{"1 1 1 1; 0 1 1 1", 4, "[0 1]"},
		{"0 1 1 1; 0 1 1 2", 4, "[1 3]"},
	} {
		if got := fmt.Sprint(Heads(read(c.text), c.wide)); got != c.want {
			t.Errorf("%q: %s, want %s", c.text, got, c.want)
		}
	}
}

func TestLessAndOver(t *testing.T) {
	r, s := Of([]api.Q{"1", "0", "3", "1/2"}), Of([]api.Q{"2", "1", "0", "1/4"})
	if got := told([]Row{r.Less(s, num.Of("2")), r.Less(s, num.Frac{}), r.Over(num.Of("-1/2")), r, s}); got != "-3 -2 3 0; 1 0 3 1/2; -2 0 -6 -1; 1 0 3 1/2; 2 1 0 1/4" {
		t.Errorf("%s", got)
	}
	if got := told([]Row{Row{}.Less(Row{}, num.Of("2")), Row{}.Over(num.Of("2"))}); got != "; " {
		t.Errorf("of nothing: %q", got)
	}
}

func TestSolve(t *testing.T) {
	for _, c := range []struct {
		text string
		wide int
		sums string
		want string
		e    api.Errno
	}{
		{"", 0, "", "", api.OK},
		{"", 1, "", "", api.ErrFree},
		{"2", 1, "3", "3/2", api.OK},
		{"0", 1, "0", "", api.ErrFree},
		{"0", 1, "3", "", api.ErrNone},
		{"1 1; 1 -1", 2, "3 1", "2 1", api.OK},
		{"0 1; 1 0", 2, "3 1", "1 3", api.OK},
		{"1 1; 2 2", 2, "3 6", "", api.ErrFree},
		{"1 1; 2 2", 2, "3 5", "", api.ErrNone},
		{"1 1; 1 -1; 3 1", 2, "3 1 7", "2 1", api.OK},
		{"1 1; 1 -1; 3 1", 2, "3 1 8", "", api.ErrNone},
		{"1 1 0; 2 2 0", 3, "3 5", "", api.ErrNone},
	} {
		sums := make(Row, 0)
		for _, r := range read(c.sums) {
			sums = r
		}
		x, e := Solve(read(c.text), c.wide, sums)
		if got := told([]Row{x}); got != c.want || e != c.e {
			t.Errorf("%q is %q: %q %v, want %q %v", c.text, c.sums, got, e, c.want, c.e)
		}
	}
}

func TestTurned(t *testing.T) {
	if got := told(Turned(read("1 2 3; 4 5 6"), 3)); got != "1 4; 2 5; 3 6" {
		t.Errorf("%q", got)
	}
	if got := Turned(nil, 2); len(got) != 2 || len(got[0])+len(got[1]) != 0 {
		t.Errorf("of nothing: %v", got)
	}
}

func TestPart(t *testing.T) {
	l := read("1 2 3; 4 5 6; 7 8 9")
	for _, c := range []struct {
		at   []int
		want string
	}{{nil, ""}, {[]int{1}, "5"}, {[]int{0, 2}, "1 3; 7 9"}, {[]int{2, 0}, "9 7; 3 1"}, {[]int{0, 1, 2}, "1 2 3; 4 5 6; 7 8 9"}} {
		part := Part(l, c.at)
		if got := told(part); got != c.want {
			t.Errorf("%v: %q, want %q", c.at, got, c.want)
		}
		for _, r := range part {
			clear(r)
		}
	}
	if got := told(l); got != "1 2 3; 4 5 6; 7 8 9" {
		t.Errorf("it has become %q", got)
	}
}

func TestTextsAndTimes(t *testing.T) {
	r := Of([]api.Q{"02/4", "x", "-3", "1/0"})
	l := r.Texts()
	if got := fmt.Sprint(l); got != "[1/2 0 -3 0]" {
		t.Errorf("%s", got)
	}
	if got := fmt.Sprint(Of(nil), Row{}.Texts()); got != "[] []" {
		t.Errorf("of nothing: %s", got)
	}
	for _, c := range [][3]api.Q{{"1/2", "1/3", "1/6"}, {"-3", "0", "0"}, {"0", "5", "0"}} {
		if got := Of(c[:1]).Times(Of(c[1:2])).Q(); got != c[2] {
			t.Errorf("%s times %s: %s", c[0], c[1], got)
		}
	}
	if got := r.Times(Of([]api.Q{"4", "7", "1/3", "9"})).Q(); got != "1" {
		t.Errorf("%s", got)
	}
	if got := (Row{}).Times(Row{}).Q(); got != "0" {
		t.Errorf("of nothing: %s", got)
	}
}

func randomRows(r *rand.Rand, high, wide int) []Row {
	l := Blank(high, wide)
	for i := range high {
		for c := range wide {
			if r.Intn(2) == 0 {
				l[i][c] = num.Of(api.Q(fmt.Sprintf("%d/%d", r.Intn(9)-4, 1+r.Intn(3))))
			}
		}
	}
	return l
}

func dot(a, b Row) num.Frac {
	var sum num.Frac
	for i := range a {
		sum = sum.Plus(a[i].Times(b[i]))
	}
	return sum
}

func TestRandomRows(t *testing.T) {
	r := rand.New(rand.NewSource(6))
	for range 3000 {
		high, wide := r.Intn(6), r.Intn(6)
		l := randomRows(r, high, wide)
		before := told(l)
		rank := Rank(l, wide)
		if over := Rank(Turned(l, wide), high); over != rank {
			t.Fatalf("%s: rank %d, turned %d", before, rank, over)
		}
		nulls := Nulls(l, wide)
		if len(nulls) != wide-rank {
			t.Fatalf("%s: rank %d, nulls %s", before, rank, told(nulls))
		}
		for c, heads := 0, Heads(l, wide); c < wide; c++ { // a head is what adds to the rank of those ahead of it
			if adds := Rank(l, c+1) > Rank(l, c); adds != slices.Contains(heads, c) {
				t.Fatalf("%s: column %d adds is %v, heads %v", before, c, adds, heads)
			}
		}
		x := randomRows(r, 1, wide)[0]
		sums := make(Row, high)
		for i := range l {
			sums[i] = dot(l[i], x)
			for _, n := range nulls {
				if !dot(l[i], n).IsZero() {
					t.Fatalf("%s: %s", before, told(nulls))
				}
			}
		}
		got, e := Solve(l, wide, sums)
		if rank < wide && e != api.ErrFree || rank == wide && (e != api.OK || told([]Row{got}) != told([]Row{x})) {
			t.Fatalf("%s is %s: %s %v, want %s", before, told([]Row{sums}), told([]Row{got}), e, told([]Row{x}))
		}
		if after := told(l); after != before {
			t.Fatalf("%s has become %s", before, after)
		}
	}
}
