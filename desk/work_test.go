package desk_test

import (
	"fmt"
	"math"
	"math/rand"
	"slices"
	"sync"
	"testing"

	"rafter/api"
	"rafter/desk"
	"rafter/give"
	"rafter/rig"
)

func fault(code api.Errno, at int) api.Fault { return api.Fault{Code: code, At: at} }

func load(joint int, x, y api.Q) api.Load {
	return api.Load{Joint: joint, Way: api.Spot{X: x, Y: y}}
}

func parsed(t *testing.T, text string) api.Frame {
	t.Helper()
	f, g := rig.Parse(text)
	if g.Code != api.OK {
		t.Fatalf("%q: %v", text, g)
	}
	return f
}

// soft is a pole that gives n times as much as its load.
func soft(n int) api.Frame {
	return api.Frame{
		Joints: []api.Spot{{X: "0", Y: "0"}, {X: "1", Y: "0"}},
		Bars:   []api.Bar{{A: 0, B: 1, C: api.Q(fmt.Sprintf("1/%d", n))}},
		Holds:  []api.Hold{{Joint: 0, Way: api.Along}, {Joint: 0, Way: api.Up}, {Joint: 1, Way: api.Up}},
	}
}

// softs has n of them, each as soft as its number from 1 on tells; 3 pull at each.
func softs(n int) ([]api.Frame, [][]api.Load) {
	var frames []api.Frame
	var loads [][]api.Load
	for i := range n {
		frames = append(frames, soft(i+1))
		loads = append(loads, []api.Load{load(1, "3", "0")})
	}
	return frames, loads
}

// movedBy is what is told of a soft pole: how far its end is moved, and by what it is pulled.
func movedBy(far, pull int) string {
	return fmt.Sprintf("{[{0 0} {%d 0}] {[%d] [%d 0 0]}}", far, pull, -pull)
}

func TestWorkOfNone(t *testing.T) {
	for _, frames := range [][]api.Frame{nil, {}, make([]api.Frame, 0, 9)} {
		for _, loads := range [][][]api.Load{nil, {}, make([][]api.Load, 0, 9)} {
			if m, g := desk.Work(frames, loads); len(m) != 0 || len(g) != 0 {
				t.Errorf("%v %v", m, g)
			}
		}
	}
}

func TestWorkOfOne(t *testing.T) {
	for _, c := range []struct {
		what string
		f    api.Frame
		l    []api.Load
		want string
	}{
		{"a pole", soft(1), nil, "[" + movedBy(0, 0) + "] [{0 0}]"},
		{"a pole, no loads in a list", soft(1), []api.Load{}, "[" + movedBy(0, 0) + "] [{0 0}]"},
		{"a pole that is pulled", soft(7), []api.Load{load(1, "2", "0")}, "[" + movedBy(14, 2) + "] [{0 0}]"},
		{"a tent", parsed(t, tent), []api.Load{load(2, "0", "-1")}, "[{[{0 0} {1/2 0} {-1/24 -11/24}] {[-1/2 -1/2] [1/2 1/2 -1/2 1/2]}}] [{0 0}]"},
		{"no bars", parsed(t, nailed), []api.Load{load(0, "3", "-1/2")}, "[{[{1/2 0}] {[] [-3 1/2]}}] [{0 0}]"},
		{"no joints", api.Frame{}, nil, "[{[] {[] []}}] [{2 0}]"},
		{"a load at no joint", soft(1), []api.Load{load(1, "1", "0"), load(2, "1", "0")}, "[{[] {[] []}}] [{4 5}]"},
		{"too many loads", soft(1), make([]api.Load, api.MaxLoads+1), "[{[] {[] []}}] [{2 4}]"},
		{"nothing bears it", parsed(t, roller), []api.Load{load(1, "0", "1")}, "[{[] {[] []}}] [{8 0}]"},
		{"it moves by itself", parsed(t, roller), nil, "[{[] {[] []}}] [{9 0}]"},
	} {
		m, g := desk.Work([]api.Frame{c.f}, [][]api.Load{c.l})
		if got := fmt.Sprint(m, g); got != c.want {
			t.Errorf("%s: %s, want %s", c.what, got, c.want)
		}
	}
}

// Each answer is that of its own frame, at its own place, of however many there are.
func TestWorkInOrder(t *testing.T) {
	for n := range api.MaxTasks + 1 {
		m, g := desk.Work(softs(n))
		if len(m) != n || len(g) != n {
			t.Fatalf("of %d: %v %v", n, m, g)
		}
		for i := range n {
			if got, want := fmt.Sprint(m[i]), movedBy(3*(i+1), 3); got != want || g[i] != fault(api.OK, 0) {
				t.Errorf("of %d, %d: %s %v, want %s", n, i, got, g[i], want)
			}
		}
	}
}

// Each list of loads is that of its own frame.
func TestLoadsInOrder(t *testing.T) {
	frames := slices.Repeat([]api.Frame{soft(1)}, api.MaxTasks)
	loads := make([][]api.Load, api.MaxTasks)
	for i := range loads {
		loads[i] = slices.Repeat([]api.Load{load(1, "1", "0")}, i)
	}
	m, g := desk.Work(frames, loads)
	for i := range m {
		if got, want := fmt.Sprint(m[i]), movedBy(i, i); got != want || g[i] != fault(api.OK, 0) {
			t.Errorf("%d: %s %v, want %s", i, got, g[i], want)
		}
	}
}

// spoil makes the task i one with a fault, another one for each kind, and tells which.
func spoil(kind, i int, frames []api.Frame, loads [][]api.Load) api.Fault {
	switch kind {
	case 0:
		frames[i].Joints = nil
		return fault(api.ErrMany, 0)
	case 1:
		frames[i].Bars[0].C = "0"
		return fault(api.ErrValue, 0)
	case 2:
		frames[i].Holds[i%3].Joint = 2
		return fault(api.ErrJoint, 1+i%3)
	case 3:
		loads[i] = append(slices.Repeat(loads[i], i%api.MaxLoads), load(math.MinInt, "1", "0"))
		return fault(api.ErrJoint, 4+i%api.MaxLoads)
	case 4:
		loads[i] = slices.Repeat(loads[i], api.MaxLoads+1)
		return fault(api.ErrMany, 4)
	case 5:
		frames[i].Holds = frames[i].Holds[:2]
		return fault(api.ErrFree, 0)
	case 6:
		frames[i].Bars = nil
		return fault(api.ErrNone, 0)
	}
	return fault(api.OK, 0)
}

// Faults are those of their own frames and loads, whatever stands beside them.
func TestFaultsInOrder(t *testing.T) {
	for turn := range 8 {
		frames, loads := softs(api.MaxTasks)
		want := make([]api.Fault, len(frames))
		for i := range frames {
			want[i] = spoil((i+turn)%8, i, frames, loads)
		}
		m, g := desk.Work(frames, loads)
		if !slices.Equal(g, want) || len(m) != len(frames) {
			t.Fatalf("%v %v, want %v", m, g, want)
		}
		for i := range m {
			told := movedBy(3*(i+1), 3)
			if want[i].Code != api.OK {
				told = "{[] {[] []}}"
			}
			if got := fmt.Sprint(m[i]); got != told {
				t.Errorf("turn %d, %d: %s, want %s", turn, i, got, told)
			}
		}
	}
}

func TestManyTasks(t *testing.T) {
	most, loads := softs(api.MaxTasks)
	more, moreLoads := softs(api.MaxTasks + 1)
	wrong := make([]api.Frame, 3) // with a fault each
	for _, c := range []struct {
		what   string
		frames []api.Frame
		loads  [][]api.Load
	}{
		{"one more", more, moreLoads},
		{"one more, its loads are fewer", more, loads},
		{"one more, no loads", more, nil},
		{"very many", make([]api.Frame, 5000), make([][]api.Load, 5000)},
		{"one list fewer", most, loads[1:]},
		{"one list more", most, moreLoads},
		{"no lists", most, nil},
		{"no lists of one", most[:1], nil},
		{"two lists of one", most[:1], loads[:2]},
		{"one list of none", nil, loads[:1]},
		{"an empty list of none", nil, make([][]api.Load, 1)},
		{"faults, and one list fewer", wrong, loads[:2]},
		{"faults, and one list more", wrong, loads[:4]},
		{"faults, and one more", make([]api.Frame, api.MaxTasks+1), moreLoads},
	} {
		m, g := desk.Work(c.frames, c.loads)
		if len(m) != 0 || !slices.Equal(g, []api.Fault{fault(api.ErrMany, 0)}) {
			t.Errorf("%s: %v %v", c.what, m, g)
		}
	}
}

func randomQ(r *rand.Rand) api.Q {
	return api.Q(fmt.Sprintf("%d/%d", r.Intn(13)-6, 1+r.Intn(4)))
}

// randomTask is a frame that is mostly right, and loads that mostly are.
func randomTask(r *rand.Rand) (api.Frame, []api.Load) {
	var f api.Frame
	n := 1 + r.Intn(6)
	for range n {
		f.Joints = append(f.Joints, api.Spot{X: randomQ(r), Y: randomQ(r)})
	}
	for range r.Intn(3 * n) {
		f.Bars = append(f.Bars, api.Bar{A: r.Intn(n), B: (r.Intn(n)), C: api.Q(fmt.Sprint(1 + r.Intn(4))), E: randomQ(r)})
	}
	f.Bars = slices.DeleteFunc(f.Bars, func(b api.Bar) bool {
		return r.Intn(30) > 0 && rig.Check(api.Frame{Joints: f.Joints, Bars: []api.Bar{b}}).Code != api.OK
	})
	for i := range n {
		for _, way := range []int{api.Along, api.Up} {
			if r.Intn(2) == 0 {
				f.Holds = append(f.Holds, api.Hold{Joint: i, Way: way, By: randomQ(r)})
			}
		}
	}
	var l []api.Load
	for range r.Intn(4) {
		l = append(l, load(r.Intn(n+1)-r.Intn(20)/19, randomQ(r), randomQ(r)))
	}
	return f, l
}

func TestAnswersAreMoves(t *testing.T) {
	r := rand.New(rand.NewSource(12))
	seen := map[api.Errno]int{}
	for range 150 {
		n := r.Intn(api.MaxTasks + 1)
		frames, loads := make([]api.Frame, n), make([][]api.Load, n)
		for i := range n {
			frames[i], loads[i] = randomTask(r)
		}
		m, g := desk.Work(frames, loads)
		if len(m) != n || len(g) != n {
			t.Fatalf("of %d: %d and %d", n, len(m), len(g))
		}
		for i := range n {
			moved, fault := give.Move(frames[i], loads[i])
			seen[fault.Code]++
			if got, want := fmt.Sprint(m[i], g[i]), fmt.Sprint(moved, fault); got != want {
				t.Fatalf("%v %v: %s, want %s", frames[i], loads[i], got, want)
			}
		}
	}
	for _, e := range []api.Errno{api.OK, api.ErrJoint, api.ErrValue, api.ErrNone, api.ErrFree} {
		if seen[e] < 20 {
			t.Errorf("only %d are of kind %d: %v", seen[e], e, seen)
		}
	}
}

// uneven has tasks that take their time, and tasks that don't, so that they end in another order than they begin.
func uneven() ([]api.Frame, [][]api.Load) {
	frames, loads := softs(api.MaxTasks)
	r := rand.New(rand.NewSource(3))
	for i := 0; i < len(frames); i += 3 {
		f := api.Frame{}
		for k := range 8 {
			f.Joints = append(f.Joints, api.Spot{X: api.Q(fmt.Sprintf("%d/%d", r.Int63(), 1+r.Int63())), Y: api.Q(fmt.Sprint(k))})
		}
		for k := range 8 {
			f.Bars = append(f.Bars, api.Bar{A: k, B: (k + 1) % 8, C: "1"}, api.Bar{A: k, B: (k + 2) % 8, C: "1/3"})
		}
		f.Holds = []api.Hold{{Joint: 0, Way: api.Along}, {Joint: 0, Way: api.Up}, {Joint: 1, Way: api.Along}}
		frames[i] = f
	}
	return frames, loads
}

// However the workers run, and however many ask at a time, the answer is the same.
func TestWorkAgain(t *testing.T) {
	frames, loads := uneven()
	want := fmt.Sprint(desk.Work(frames, loads))
	answers := make([]string, 24)
	var all sync.WaitGroup
	for i := range answers {
		all.Go(func() { answers[i] = fmt.Sprint(desk.Work(frames, loads)) })
	}
	all.Wait()
	for _, got := range answers {
		if got != want {
			t.Fatalf("%s, then %s", want, got)
		}
	}
}
