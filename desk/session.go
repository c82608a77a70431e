package desk

import (
	"strings"

	"rafter/api"
	"rafter/give"
	"rafter/limit"
	"rafter/rig"
	"rafter/still"
)

// session is the lines that aren't read yet, and what is laid down.
type session struct {
	verbs []verb
	rest  []string
	laid  bool // whether there is a frame
	frame api.Frame
	loads []api.Load
}

// verb is what the first word of a line asks for. It answers words or a fault.
type verb struct {
	word   string
	framed bool // a frame must be laid down
	more   bool // words may stand behind it
	answer func(s *session, behind []string) any
}

func verbs() []verb {
	return []verb{
		{word: "frame", answer: (*session).layFrame},
		{word: "load", framed: true, more: true, answer: (*session).addLoad},
		{word: "count", framed: true, answer: (*session).count},
		{word: "counts", framed: true, answer: (*session).counts},
		{word: "carry", framed: true, answer: (*session).carry},
		{word: "give", framed: true, answer: (*session).give},
		{word: "limit", framed: true, answer: (*session).limit},
	}
}

// next takes the first of the lines that aren't read yet; there is one.
func (s *session) next() string {
	line := s.rest[0]
	s.rest = s.rest[1:]
	return line
}

// answer is words or a fault. A verb that may have words behind it is asked for whatever these are; any other is so only if the line ends with it, even ahead of any frame.
func (s *session) answer(line string) any {
	words := strings.Split(line, " ")
	for _, v := range s.verbs {
		if v.word != words[0] || len(words) > 1 && !v.more {
			continue
		}
		if v.framed && !s.laid {
			return []string{"none"}
		}
		return v.answer(s, words[1:])
	}
	return []string{"bad"}
}

func (s *session) layFrame([]string) any {
	f, g := rig.Parse(s.frameText())
	if g.Code == api.OK {
		s.laid, s.frame, s.loads = true, f, nil
	}
	return answerOf(g, "ok")
}

// frameText takes the lines of a frame, and the one that ends them, if there is such.
func (s *session) frameText() string {
	var text strings.Builder
	for len(s.rest) > 0 {
		line := s.next()
		if line == "end" {
			break
		}
		text.WriteString(lineOf(line))
	}
	return text.String()
}

func (s *session) addLoad(behind []string) any {
	l, ok := readLoad(behind)
	if !ok {
		return []string{"bad"}
	}
	loads := append(s.loads, l)
	g := rig.CheckLoads(s.frame, loads)
	if g.Code == api.OK {
		s.loads = loads
	}
	return answerOf(g, "ok")
}

func (s *session) count([]string) any {
	n, g := rig.Count(s.frame)
	return answerOf(g, numbers(n)...)
}

func (s *session) counts([]string) any {
	rank, stresses, motions, g := still.Counts(s.frame)
	return answerOf(g, numbers(rank, stresses, motions)...)
}

func (s *session) carry([]string) any {
	t, g := still.Carry(s.frame, s.loads)
	return answerOf(g, parted(t.Bars, t.Holds)...)
}

func (s *session) give([]string) any {
	m, g := give.Move(s.frame, s.loads)
	return answerOf(g, parted(flat(m.Joints), m.Stress.Bars, m.Stress.Holds)...)
}

func (s *session) limit([]string) any {
	c, g := limit.Carries(s.frame, s.loads)
	return answerOf(g, string(c.Factor))
}
