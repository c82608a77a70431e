package balance_test

import (
	"fmt"
	"strings"
	"testing"

	"rafter/api"
	"rafter/balance"
	"rafter/rows"
)

func frame() api.Frame {
	return api.Frame{
		Joints: []api.Spot{{X: "0", Y: "0"}, {X: "2", Y: "3"}},
		Bars:   []api.Bar{{A: 0, B: 1, C: "1"}, {A: 1, B: 0, C: "1"}},
		Holds:  []api.Hold{{Joint: 1, Way: api.Along}, {Joint: 0, Way: api.Up}},
	}
}

func told(l []rows.Row) string {
	var s string
	for _, r := range l {
		s += fmt.Sprintln(r.Texts())
	}
	return s
}

func TestBalance(t *testing.T) {
	f := frame()
	if balance.Parts(f) != 4 || balance.Ways(f) != 4 {
		t.Errorf("%d parts, %d ways", balance.Parts(f), balance.Ways(f))
	}
	want := "[2 2 0 0]\n[3 3 0 1]\n[-2 -2 1 0]\n[-3 -3 0 0]\n" // a bar puts the same, told from A to B or from B to A
	if got := told(balance.Of(f)); got != want {
		t.Errorf("%s, want %s", got, want)
	}
	for i, w := range []string{"2 3", "-2 -3"} {
		if x, y := balance.Way(f, f.Bars[i]); string(x.Q()+" "+y.Q()) != w {
			t.Errorf("way of bar %d: %s %s, want %s", i, x.Q(), y.Q(), w)
		}
	}
	for i, at := range []int{2, 1} {
		if got := balance.Held(f.Holds[i]); got != at {
			t.Errorf("hold %d: row %d, want %d", i, got, at)
		}
	}
}

func TestAgainst(t *testing.T) {
	l := []api.Load{{Joint: 1, Way: api.Spot{X: "1", Y: "1/2"}}, {Joint: 1, Way: api.Spot{X: "2", Y: "-1/2"}}, {Joint: 0, Way: api.Spot{Y: "-7"}}}
	if got := fmt.Sprint(balance.Against(frame(), l).Texts()); got != "[0 7 -3 0]" {
		t.Errorf("%s", got)
	}
	if got := fmt.Sprint(balance.Against(frame(), nil).Texts()); got != "[0 0 0 0]" {
		t.Errorf("no loads: %s", got)
	}
}

func TestTold(t *testing.T) {
	r := rows.Of([]api.Q{"1", "2/4", "-3", "0"})
	if got := fmt.Sprint(balance.Stress(frame(), r)); got != "{[1 1/2] [-3 0]}" {
		t.Errorf("%s", got)
	}
	if got := fmt.Sprint(balance.Motion(r)); got != "[{1 1/2} {-3 0}]" {
		t.Errorf("%s", got)
	}
	if got := fmt.Sprint(balance.RowOf([]api.Spot{{X: "1", Y: "2/4"}, {X: "-3", Y: "x"}}).Texts()); got != "[1 1/2 -3 0]" {
		t.Errorf("%s", got)
	}
}

func TestFree(t *testing.T) {
	f := frame()
	if got := fmt.Sprint(balance.Free(f)); got != "[0 3]" {
		t.Errorf("%s", got)
	}
	for i, joint := range []int{0, 0, 1, 1} {
		if got := balance.Joint(i); got != joint {
			t.Errorf("row %d: joint %d, want %d", i, got, joint)
		}
	}
	f.Holds = append(f.Holds, api.Hold{Joint: 0, Way: api.Along}, api.Hold{Joint: 1, Way: api.Up})
	if got := balance.Free(f); len(got) != 0 {
		t.Errorf("all is held: %v", got)
	}
	f.Holds = nil
	if got := fmt.Sprint(balance.Free(f)); got != "[0 1 2 3]" {
		t.Errorf("nothing is held: %s", got)
	}
}

// A bar is stretched by as much, told from A to B or from B to A.
func TestStretched(t *testing.T) {
	for motion, want := range map[string]string{"0 0 0 0": "[0 0]", "0 0 1 0": "[2 2]", "0 0 0 1": "[3 3]", "1 0 0 0": "[-2 -2]", "0 1 0 0": "[-3 -3]", "5 1/2 5 1/2": "[0 0]", "0 0 3 -2": "[0 0]", "1 1 1/2 4": "[8 8]"} {
		if got := fmt.Sprint(balance.Stretched(frame(), numbers(motion)).Texts()); got != want {
			t.Errorf("%s: %s, want %s", motion, got, want)
		}
	}
}

func numbers(text string) rows.Row {
	var l []api.Q
	for _, w := range strings.Fields(text) {
		l = append(l, api.Q(w))
	}
	return rows.Of(l)
}

func TestStiff(t *testing.T) {
	f := frame()
	f.Bars[0].C, f.Bars[1].C = "1/2", "3/2"
	if got := told(balance.Stiff(f)); got != "[8 12 -8 -12]\n[12 18 -12 -18]\n[-8 -12 8 12]\n[-12 -18 12 18]\n" {
		t.Errorf("%s", got)
	}
	f.Joints = append(f.Joints, api.Spot{X: "2", Y: "0"})
	f.Bars[0].B, f.Bars[0].C = 2, "5"
	if got := told(balance.Stiff(f)[4:]); got != "[-20 0 0 0 20 0]\n[0 0 0 0 0 0]\n" {
		t.Errorf("%s", got)
	}
	f.Bars = nil
	if got := told(balance.Stiff(f)[5:]); got != "[0 0 0 0 0 0]\n" {
		t.Errorf("no bars: %s", got)
	}
}
