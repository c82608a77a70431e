package rig

import (
	"strconv"
	"strings"

	"rafter/api"
	"rafter/num"
)

// The words that lines begin with.
const (
	jointWord = "joint"
	barWord   = "bar"
	holdWord  = "hold"
)

// Print writes f, a line for each joint, bar and hold.
func Print(f api.Frame) (string, api.Fault) {
	if fault := Check(f); fault.Code != api.OK {
		return "", fault
	}
	var text strings.Builder
	for _, j := range f.Joints {
		text.WriteString(jointLine(j))
	}
	for _, b := range f.Bars {
		text.WriteString(barLine(b))
	}
	for _, h := range f.Holds {
		text.WriteString(holdLine(h))
	}
	if text.Len() > api.MaxText {
		return "", api.Fault{Code: api.ErrMany}
	}
	return text.String(), api.Fault{}
}

func jointLine(j api.Spot) string {
	return lineOf(jointWord, lowest(j.X), lowest(j.Y))
}

func barLine(b api.Bar) string {
	return lineOf(barWord, strconv.Itoa(b.A), strconv.Itoa(b.B), lowest(b.C), lowest(b.E), lowest(b.Least), lowest(b.Most))
}

func holdLine(h api.Hold) string {
	return lineOf(holdWord, strconv.Itoa(h.Joint), wayWord(h.Way), lowest(h.By))
}

func lineOf(words ...string) string { return strings.Join(words, " ") + "\n" }

func lowest(q api.Q) string { return string(num.Of(q).Q()) }

func wayWord(way int) string {
	if way == api.Along {
		return "x"
	}
	return "y"
}

// Parse reads what Print wrote.
func Parse(text string) (api.Frame, api.Fault) {
	if len(text) > api.MaxText {
		return api.Frame{}, api.Fault{Code: api.ErrMany}
	}
	f, fault := readLines(text)
	if fault.Code == api.OK {
		fault = Check(f)
	}
	if fault.Code != api.OK {
		return api.Frame{}, fault
	}
	return f, api.Fault{}
}

func readLines(text string) (api.Frame, api.Fault) {
	var f api.Frame
	at := 0
	for line := range strings.Lines(text) {
		if !take(&f, line) {
			return api.Frame{}, api.Fault{Code: api.ErrText, At: at}
		}
		at++
	}
	return f, api.Fault{}
}

// take puts what line tells into f, if line may stand behind what f has already. Whether it is written as Print writes it is told by writing it again: so the two can't come apart.
func take(f *api.Frame, line string) bool {
	words := strings.Split(strings.TrimSuffix(line, "\n"), " ")
	switch words[0] {
	case jointWord:
		j, ok := readJoint(words[1:])
		f.Joints = append(f.Joints, j)
		return ok && len(f.Bars) == 0 && len(f.Holds) == 0 && jointLine(j) == line
	case barWord:
		b, ok := readBar(words[1:])
		f.Bars = append(f.Bars, b)
		return ok && len(f.Holds) == 0 && barLine(b) == line
	case holdWord:
		h, ok := readHold(words[1:])
		f.Holds = append(f.Holds, h)
		return ok && holdLine(h) == line
	}
	return false
}

func readJoint(words []string) (api.Spot, bool) {
	if len(words) != 2 {
		return api.Spot{}, false
	}
	return api.Spot{X: readFraction(words[0]), Y: readFraction(words[1])}, true
}

func readBar(words []string) (api.Bar, bool) {
	if len(words) != 6 || !isDigit(words[0]) || !isDigit(words[1]) {
		return api.Bar{}, false
	}
	return api.Bar{
		A: readDigit(words[0]), B: readDigit(words[1]),
		C: readFraction(words[2]), E: readFraction(words[3]),
		Least: readFraction(words[4]), Most: readFraction(words[5]),
	}, true
}

func readHold(words []string) (api.Hold, bool) {
	if len(words) != 3 || !isDigit(words[0]) {
		return api.Hold{}, false
	}
	way := api.Up
	if words[1] == wayWord(api.Along) {
		way = api.Along
	}
	return api.Hold{Joint: readDigit(words[0]), Way: way, By: readFraction(words[2])}, true
}

func isDigit(word string) bool { return len(word) == 1 && word[0] >= '0' && word[0] <= '9' }

func readDigit(word string) int { return int(word[0] - '0') }

// readFraction makes a text of its own, so that no frame keeps the whole text that it was read from.
func readFraction(word string) api.Q { return api.Q(lowest(api.Q(word))) }
