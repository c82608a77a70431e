package balance_test

import (
	"fmt"
	"testing"

	"rafter/api"
	"rafter/balance"
	"rafter/rows"
)

func frame() api.Frame {
	return api.Frame{
		Joints: []api.Spot{{X: "0", Y: "0"}, {X: "2", Y: "3"}},
		Bars:   []api.Bar{{A: 0, B: 1, C: "1"}, {A: 1, B: 0, C: "1"}},
		Holds:  []api.Hold{{Joint: 1, Way: api.Along}, {Joint: 0, Way: api.Up}},
	}
}

func told(l []rows.Row) string {
	var s string
	for _, r := range l {
		s += fmt.Sprintln(r.Texts())
	}
	return s
}

func TestBalance(t *testing.T) {
	f := frame()
	if balance.Parts(f) != 4 || balance.Ways(f) != 4 {
		t.Errorf("%d parts, %d ways", balance.Parts(f), balance.Ways(f))
	}
	want := "[2 2 0 0]\n[3 3 0 1]\n[-2 -2 1 0]\n[-3 -3 0 0]\n" // a bar puts the same, told from A to B or from B to A
	if got := told(balance.Of(f)); got != want {
		t.Errorf("%s, want %s", got, want)
	}
	for i, w := range []string{"2 3", "-2 -3"} {
		if x, y := balance.Way(f, f.Bars[i]); string(x.Q()+" "+y.Q()) != w {
			t.Errorf("way of bar %d: %s %s, want %s", i, x.Q(), y.Q(), w)
		}
	}
	for i, at := range []int{2, 1} {
		if got := balance.Held(f.Holds[i]); got != at {
			t.Errorf("hold %d: row %d, want %d", i, got, at)
		}
	}
}

func TestAgainst(t *testing.T) {
	l := []api.Load{{Joint: 1, Way: api.Spot{X: "1", Y: "1/2"}}, {Joint: 1, Way: api.Spot{X: "2", Y: "-1/2"}}, {Joint: 0, Way: api.Spot{Y: "-7"}}}
	if got := fmt.Sprint(balance.Against(frame(), l).Texts()); got != "[0 7 -3 0]" {
		t.Errorf("%s", got)
	}
	if got := fmt.Sprint(balance.Against(frame(), nil).Texts()); got != "[0 0 0 0]" {
		t.Errorf("no loads: %s", got)
	}
}

func TestTold(t *testing.T) {
	r := rows.Of([]api.Q{"1", "2/4", "-3", "0"})
	if got := fmt.Sprint(balance.Stress(frame(), r)); got != "{[1 1/2] [-3 0]}" {
		t.Errorf("%s", got)
	}
	if got := fmt.Sprint(balance.Motion(r)); got != "[{1 1/2} {-3 0}]" {
		t.Errorf("%s", got)
	}
	if got := fmt.Sprint(balance.RowOf([]api.Spot{{X: "1", Y: "2/4"}, {X: "-3", Y: "x"}}).Texts()); got != "[1 1/2 -3 0]" {
		t.Errorf("%s", got)
	}
}
