package desk_test

import (
	"fmt"
	"reflect"
	"slices"
	"strings"
	"testing"

	"rafter/api"
	"rafter/desk"
)

// roomy has every list with some room behind it, filled like the list.
func roomy(f api.Frame) api.Frame {
	return api.Frame{Joints: slices.Repeat(f.Joints, 2), Bars: slices.Repeat(f.Bars, 2), Holds: slices.Repeat(f.Holds, 2)}
}

// front is the first half of each list of a frame.
func front(f api.Frame) api.Frame {
	return api.Frame{Joints: f.Joints[:len(f.Joints)/2], Bars: f.Bars[:len(f.Bars)/2], Holds: f.Holds[:len(f.Holds)/2]}
}

// given is what is handed in, twice of everything.
func given(t *testing.T) ([]api.Frame, [][]api.Load) {
	odd := parsed(t, tent)
	odd.Joints[0], odd.Bars[1].C, odd.Holds[2].By = api.Spot{X: "-0", Y: "x"}, "04/2", "1/0"
	wrong := parsed(t, pole)
	wrong.Bars[0].B = 0
	var frames []api.Frame
	var loads [][]api.Load
	for _, f := range []api.Frame{parsed(t, pole), odd, wrong, parsed(t, lone), {}, parsed(t, doubled)} {
		for _, l := range [][]api.Load{{load(0, "02/4", "-0"), load(0, "", "1/0")}, {load(0, "1", "1"), load(77, "1", "1")}, nil} {
			frames, loads = append(frames, roomy(f)), append(loads, slices.Repeat(l, 2))
		}
	}
	return slices.Repeat(frames, 2), slices.Repeat(loads, 2)
}

// halves hands the first half of everything in: the lists, and each list of theirs.
func halves(frames []api.Frame, loads [][]api.Load) ([]api.Moved, []api.Fault) {
	n := len(frames) / 2
	for i := range n {
		frames[i], loads[i] = front(frames[i]), loads[i][:len(loads[i])/2]
	}
	return desk.Work(frames[:n], loads[:n])
}

// whole is all of what was halved, the room behind it, too.
func whole(frames []api.Frame, loads [][]api.Load) string {
	for i := range len(frames) / 2 {
		f := &frames[i]
		f.Joints, f.Bars, f.Holds = f.Joints[:2*len(f.Joints)], f.Bars[:2*len(f.Bars)], f.Holds[:2*len(f.Holds)]
		loads[i] = loads[i][:2*len(loads[i])]
	}
	return fmt.Sprint(frames, loads)
}

func TestOnlyRead(t *testing.T) {
	frames, loads := given(t)
	before := fmt.Sprint(frames, loads)
	first := fmt.Sprint(halves(frames, loads))
	if after := whole(frames, loads); after != before {
		t.Errorf("%s has become %s", before, after)
	}
	if again := fmt.Sprint(halves(frames, loads)); again != first {
		t.Errorf("%s, then %s", first, again)
	}
}

// What is refused is only read, too.
func TestOnlyReadIfRefused(t *testing.T) {
	frames, loads := given(t)
	before := fmt.Sprint(frames, loads)
	desk.Work(frames, loads)
	desk.Work(frames[:2], loads)
	desk.Work(frames[:2], loads[:1])
	if after := fmt.Sprint(frames, loads); after != before {
		t.Errorf("%s has become %s", before, after)
	}
}

// filled writes over a whole list, the room behind it, too.
func filled[T any](l []T, with T) {
	l = l[:cap(l)]
	for i := range l {
		l[i] = with
	}
}

// apart fails if writing over one thing, by fill, is seen in what look tells.
func apart(t *testing.T, what string, fill func(), look func() string) {
	t.Helper()
	before := look()
	fill()
	if after := look(); after != before {
		t.Errorf("%s: %s, then %s", what, before, after)
	}
}

// Lists of an answer are its own, even if all tasks are one and the same: what is written into one is seen in no other, in nothing that was handed in, and in no later answer.
func TestListsOfTheirOwn(t *testing.T) {
	f, l := parsed(t, tent), []api.Load{load(2, "0", "-1")}
	frames, loads := slices.Repeat([]api.Frame{f}, api.MaxTasks), slices.Repeat([][]api.Load{l}, api.MaxTasks)
	m, g := desk.Work(frames, loads)
	others := func(but int) string {
		later, faults := desk.Work(frames, loads)
		return fmt.Sprint(m[:but], m[but+1:], g, frames, loads, later, faults)
	}
	for i := range m {
		apart(t, "joints", func() { filled(m[i].Joints, api.Spot{X: "9"}) }, func() string { return fmt.Sprint(m[i].Stress, others(i)) })
		apart(t, "bars", func() { filled(m[i].Stress.Bars, "8") }, func() string { return fmt.Sprint(m[i].Joints, m[i].Stress.Holds, others(i)) })
		apart(t, "holds", func() { filled(m[i].Stress.Holds, "7") }, func() string { return fmt.Sprint(m[i].Joints, m[i].Stress.Bars, others(i)) })
	}
	apart(t, "answers", func() { filled(m, api.Moved{}) }, func() string { return fmt.Sprint(g, frames, loads) })
	apart(t, "faults", func() { filled(g, fault(9, 9)) }, func() string { return fmt.Sprint(frames, loads) + fmt.Sprint(desk.Work(frames, loads)) })
	_, refused := desk.Work(frames, nil)
	apart(t, "one fault", func() { filled(refused, fault(9, 9)) }, func() string { return fmt.Sprint(desk.Work(frames, nil)) })
}

// Nobody works on any longer when the call has answered: what was handed in may be written over then, and the answer stays. (With the race detector this sees more.)
func TestNobodyWorksOn(t *testing.T) {
	frames, loads := uneven()
	m, g := desk.Work(frames, loads)
	told := fmt.Sprint(m, g)
	for i := range frames {
		filled(frames[i].Joints, api.Spot{})
		filled(frames[i].Bars, api.Bar{})
		filled(frames[i].Holds, api.Hold{})
		filled(loads[i], api.Load{})
	}
	filled(frames, api.Frame{})
	filled(loads, nil)
	if now := fmt.Sprint(m, g); now != told {
		t.Errorf("%s, then %s", told, now)
	}
}

// Nothing is kept from one session to the next.
func TestSessionsOfTheirOwn(t *testing.T) {
	hold(t, []talk{
		{"a frame", laid(pole) + "load 1 1 0\ncarry\n", "ok\nok\n1 ; -1 0 0\n"},
		{"and none", "carry\nload 1 1 0\nlimit\n", "none\nnone\nnone\n"},
		{"and the same", laid(pole) + "carry\n", "ok\n0 ; 0 0 0\n"},
	})
	text := laid(tent) + "load 2 0 -1\n" + asks
	want := strings.Repeat(desk.Session(text)+"|", 16)
	told := make(chan string, 16)
	for range cap(told) {
		go func() { told <- desk.Session(text) + "|" }()
	}
	var got strings.Builder
	for range cap(told) {
		got.WriteString(<-told)
	}
	if got.String() != want {
		t.Errorf("%q, want %q", got.String(), want)
	}
}

// A list that has nothing in it may be nil or empty, with the same answer.
func TestNilOrEmpty(t *testing.T) {
	bare := []api.Frame{parsed(t, lone), parsed(t, nailed), {}}
	empty := []api.Frame{
		{Joints: bare[0].Joints, Bars: []api.Bar{}, Holds: []api.Hold{}},
		{Joints: bare[1].Joints, Bars: []api.Bar{}, Holds: bare[1].Holds},
		{Joints: []api.Spot{}, Bars: []api.Bar{}, Holds: []api.Hold{}},
	}
	m, g := desk.Work(bare, make([][]api.Load, 3))
	for range 3 {
		n, h := desk.Work(empty, [][]api.Load{{}, {}, {}})
		if fmt.Sprint(n, h) != fmt.Sprint(m, g) || !reflect.DeepEqual(g, h) {
			t.Errorf("%v %v, then %v %v", m, g, n, h)
		}
	}
}
