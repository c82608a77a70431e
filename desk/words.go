package desk

import (
	"strconv"
	"strings"

	"rafter/api"
	"rafter/num"
)

// linesOf has the lines without what ends them.
func linesOf(text string) []string {
	var l []string
	for line := range strings.Lines(text) {
		l = append(l, strings.TrimSuffix(line, "\n"))
	}
	return l
}

func lineOf(words ...string) string { return strings.Join(words, " ") + "\n" }

// answerOf is the fault, if g is one, and the words otherwise.
func answerOf(g api.Fault, words ...string) any {
	if g.Code != api.OK {
		return g
	}
	return words
}

// wordsOf tells an answer, which is words or a fault.
func wordsOf(answer any) []string {
	if g, ok := answer.(api.Fault); ok {
		return append([]string{"error"}, numbers(int(g.Code), g.At)...)
	}
	words, _ := answer.([]string)
	return words
}

func numbers(l ...int) []string {
	words := make([]string, len(l))
	for i, n := range l {
		words[i] = strconv.Itoa(n)
	}
	return words
}

// parted has a word between one list and the next, whether there is anything in them or not.
func parted(lists ...[]api.Q) []string {
	var words []string
	for i, l := range lists {
		if i > 0 {
			words = append(words, ";")
		}
		for _, q := range l {
			words = append(words, string(q))
		}
	}
	return words
}

// flat is X and Y of each.
func flat(spots []api.Spot) []api.Q {
	var l []api.Q
	for _, s := range spots {
		l = append(l, s.X, s.Y)
	}
	return l
}

// readLoad reads a joint, which is one digit, and two fractions.
func readLoad(words []string) (api.Load, bool) {
	if len(words) != 3 || len(words[0]) != 1 {
		return api.Load{}, false
	}
	joint, err := strconv.Atoi(words[0])
	l := api.Load{Joint: joint, Way: api.Spot{X: api.Q(words[1]), Y: api.Q(words[2])}}
	return l, err == nil && isAsAnswered(l.Way.X) && isAsAnswered(l.Way.Y)
}

// isAsAnswered goes by how q would be written, so that it can't come apart from that.
func isAsAnswered(q api.Q) bool { return num.Of(q).Q() == q }
