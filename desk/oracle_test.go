package desk_test

import (
	"fmt"
	"math/big"
	"math/rand"
	"regexp"
	"strings"
	"testing"

	"rafter/api"
	"rafter/desk"
	"rafter/give"
	"rafter/limit"
	"rafter/rig"
	"rafter/still"
)

// Sessions are held against the chapter's words here: by patterns, and by the library's fractions.

// part is what is told of at a time, where each line has a line feed: a frame, up to its end or the last line, or any other line.
var (
	part     = regexp.MustCompile(`\A(?:frame\n((?:[^\n]*\n)*?)(?:end\n|\z)|([^\n]*)\n)`)
	askLine  = regexp.MustCompile(`\A(count|counts|carry|give|limit)\z`)
	loadLine = regexp.MustCompile(`\Aload ([0-9]) (-?[0-9]+(?:/[0-9]+)?) (-?[0-9]+(?:/[0-9]+)?)\z`)
)

// asAnswered: the library writes a fraction alike.
func asAnswered(s string) bool {
	x, ok := new(big.Rat).SetString(s)
	return ok && x.RatString() == s
}

// expected is what the chapter says of a session.
type expected struct {
	frame *api.Frame
	loads []api.Load
}

func (x *expected) session(text string) string {
	if len(text) > api.MaxText {
		return "too long\n"
	}
	if text != "" && !strings.HasSuffix(text, "\n") {
		text += "\n"
	}
	var told strings.Builder
	for text != "" {
		m := part.FindStringSubmatch(text)
		if text = text[len(m[0]):]; strings.HasPrefix(m[0], "frame\n") {
			told.WriteString(x.lay(m[1]) + "\n")
		} else {
			told.WriteString(x.answer(m[2]) + "\n")
		}
	}
	return told.String()
}

func (x *expected) answer(line string) string {
	switch {
	case line == "load" || strings.HasPrefix(line, "load "):
		return x.load(line)
	case !askLine.MatchString(line):
		return "bad"
	case x.frame == nil:
		return "none"
	}
	return x.ask(line)
}

func (x *expected) lay(body string) string {
	f, g := rig.Parse(body)
	if g.Code == api.OK {
		x.frame, x.loads = &f, nil
	}
	return toldOf(g, "ok")
}

func (x *expected) load(line string) string {
	if x.frame == nil {
		return "none"
	}
	words := loadLine.FindStringSubmatch(line)
	if words == nil || !asAnswered(words[2]) || !asAnswered(words[3]) {
		return "bad"
	}
	end, joint := len(x.frame.Bars)+len(x.frame.Holds), int(words[1][0]-'0')
	if len(x.loads) == api.MaxLoads {
		return fmt.Sprint("error 2 ", end)
	}
	if joint >= len(x.frame.Joints) {
		return fmt.Sprint("error 4 ", end+len(x.loads))
	}
	x.loads = append(x.loads, load(joint, api.Q(words[2]), api.Q(words[3])))
	return "ok"
}

func (x *expected) ask(line string) string {
	switch line {
	case "count":
		n, g := rig.Count(*x.frame)
		return toldOf(g, fmt.Sprint(n))
	case "counts":
		rank, stresses, motions, g := still.Counts(*x.frame)
		return toldOf(g, fmt.Sprint(rank, stresses, motions))
	case "carry":
		s, g := still.Carry(*x.frame, x.loads)
		return toldOf(g, bare(s.Bars, ";", s.Holds))
	case "give":
		m, g := give.Move(*x.frame, x.loads)
		return toldOf(g, bare(m.Joints, ";", m.Stress.Bars, ";", m.Stress.Holds))
	}
	c, g := limit.Carries(*x.frame, x.loads)
	return toldOf(g, string(c.Factor))
}

func toldOf(g api.Fault, told string) string {
	if g.Code != api.OK {
		return fmt.Sprintf("error %d %d", g.Code, g.At)
	}
	return told
}

// bare has the words of what is printed, without what the library puts around lists.
func bare(l ...any) string {
	return strings.Join(strings.FieldsFunc(fmt.Sprintln(l...), func(r rune) bool { return strings.ContainsRune("[]{} \n", r) }), " ")
}

// randomLine is one that may be in a session, or nearly.
func randomLine(r *rand.Rand) string {
	choice := func(l ...string) string { return l[r.Intn(len(l))] }
	fraction := func() string {
		return choice("0", "1", "-1", "2", "1/2", "-3/2", "7/5", "-2", "12345678901234567890123/7", choice("2/4", "-0", "01", "1/0", "x", "", "+1", "1/1"))
	}
	switch r.Intn(12) {
	case 0:
		return "frame\n" + choice(pole, slack, nailed, lone, roller, doubled, tent, tent, pole) + choice("end", "end", "end", "end", "end", "end", "end ", "", "frame\nend")
	case 1:
		return "frame\n" + choice("end", "", "joint 0 0", "joint 0 0\nend", "bar 0 1 1 0 0 0\nend", "\nend", "joint 2/4 0\nend", pole+"hold 1 y 0\nend", strings.Repeat(lone, 11)+"end", lone+"\nend")
	case 2, 3, 4, 5:
		return "load " + choice("0", "1", "1", "2", "2", "3", "9", "10", "-1", "x") + " " + fraction() + " " + fraction()
	case 6, 7, 8, 9:
		return choice("count", "counts", "carry", "carry", "give", "give", "limit", "limit")
	case 10:
		return choice("load", "load 1", "load 1 1", "load 1 1 1 1", " load 1 1 1", "load  1 1 1", "load 1 1 1 ", "loads", "end", "frame ", "frame 1", " frame", "count ", " give", "give 1", "limits")
	}
	return choice("", " ", "what", "\x00", "\xff\xff", "joint 0 0", "carry\r", "\t", "end ", "count count")
}

func TestSessionsAsExpected(t *testing.T) {
	r := rand.New(rand.NewSource(36))
	seen := map[string]int{}
	for range 6000 {
		var l []string
		if r.Intn(3) > 0 {
			l = append(l, laid([]string{pole, slack, nailed, lone, roller, doubled, tent}[r.Intn(7)]))
			l[0] = strings.TrimSuffix(l[0], "\n")
		}
		for range r.Intn(30) {
			l = append(l, randomLine(r))
		}
		text := strings.Join(l, "\n") + []string{"", "\n", "\n\n"}[r.Intn(3)]
		x := expected{}
		want := x.session(text)
		if got := desk.Session(text); got != want {
			t.Fatalf("%q: %q, want %q", text, got, want)
		}
		for line := range strings.Lines(want) {
			seen[strings.Fields(line)[0]]++
			if strings.HasPrefix(line, "error") {
				seen[line[:len("error 1")]]++
			}
		}
	}
	for _, word := range []string{"ok", "none", "bad", ";", "error 1", "error 2", "error 4", "error 7", "error 8", "error 9"} {
		if seen[word] < 50 {
			t.Errorf("%q is told only %d times", word, seen[word])
		}
	}
}

// Few bytes of a whole session are other ones, gone, or more.
func TestSpoiledSessions(t *testing.T) {
	r := rand.New(rand.NewSource(4))
	whole := laid(tent) + "load 2 0 -1\nload 1 3/2 5\n" + asks + laid(slack) + "load 0 -1 0\nload 1 1 0\n" + asks
	for range 6000 {
		b := []byte(whole)
		for range 1 + r.Intn(4) {
			at := r.Intn(len(b))
			switch r.Intn(4) {
			case 0:
				b[at] = " \n0123456789/-xylend\x00\xff"[r.Intn(21)]
			case 1:
				b = append(b[:at], b[at+1:]...)
			case 2:
				b = append(b[:at], append([]byte{" \n01-/"[r.Intn(6)]}, b[at:]...)...)
			case 3:
				b[at] = byte(r.Intn(256))
			}
		}
		x := expected{}
		want := x.session(string(b))
		if got := desk.Session(string(b)); got != want {
			t.Fatalf("%q: %q, want %q", b, got, want)
		}
	}
}
