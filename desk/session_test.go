package desk_test

import (
	"strings"
	"testing"

	"rafter/api"
	"rafter/desk"
)

// Frames as texts.
const (
	pole    = "joint 0 0\njoint 1 0\nbar 0 1 1 0 -1 2\nhold 0 x 0\nhold 0 y 0\nhold 1 y 0\n"
	slack   = "joint 0 0\njoint 1 0\nbar 0 1 1 0 -1 2\n"                         // no holds
	nailed  = "joint 0 0\nhold 0 x 1/2\nhold 0 y 0\n"                            // no bars
	lone    = "joint 0 0\n"                                                      // neither
	roller  = "joint 0 0\njoint 1 0\nbar 0 1 1 0 -1 2\nhold 0 x 0\nhold 0 y 0\n" // the far end can go up
	doubled = "joint 0 0\njoint 1 0\nbar 0 1 1 0 -1 2\nbar 0 1 3 0 -1 2\nhold 0 x 0\nhold 0 y 0\nhold 1 y 0\n"
	tent    = "joint 0 0\njoint 2 0\njoint 1 1\nbar 0 2 1 0 -3 3\nbar 1 2 2 1/3 -3 3\nhold 0 x 0\nhold 0 y 0\nhold 1 x 1/2\nhold 1 y 0\n"
)

// laid lays a frame down.
func laid(frame string) string { return "frame\n" + frame + "end\n" }

// lines has a line feed behind each.
func lines(l ...string) string {
	var b strings.Builder
	for _, s := range l {
		b.WriteString(s + "\n")
	}
	return b.String()
}

// talk is what is said, and what is told.
type talk struct{ what, text, want string }

func hold(t *testing.T, l []talk) {
	t.Helper()
	for _, c := range l {
		if got := desk.Session(c.text); got != c.want {
			t.Errorf("%s: %q: %q, want %q", c.what, c.text, got, c.want)
		}
	}
}

func TestLines(t *testing.T) {
	hold(t, []talk{
		{"nothing", "", ""},
		{"an empty line", "\n", "bad\n"},
		{"two", "\n\n", "bad\nbad\n"},
		{"no line feed behind", "count", "none\n"},
		{"a line feed behind", "count\n", "none\n"},
		{"an empty line behind", "count\n\n", "none\nbad\n"},
		{"an empty line between", "count\n\ncount", "none\nbad\nnone\n"},
		{"an empty line ahead", "\ncount", "bad\nnone\n"},
		{"a blank", " ", "bad\n"},
		{"blanks", "   \n \n", "bad\nbad\n"},
		{"blanks at the end", "count\n  ", "none\nbad\n"},
		{"no line feed behind the last one, with a frame", laid(pole) + "count", "ok\n0\n"},
		{"empty lines, with a frame", laid(pole) + "\ncount\n\n", "ok\nbad\n0\nbad\n"},
	})
}

func TestLongTexts(t *testing.T) {
	const most = api.MaxText
	long := func(ahead, behind string, bytes int) string {
		return ahead + strings.Repeat("7", bytes-len(ahead)-len(behind)) + behind
	}
	counts := strings.Repeat("count\n", most/len("count\n"))
	hold(t, []talk{
		{"one line", strings.Repeat("z", most), "bad\n"},
		{"one byte more", strings.Repeat("z", most+1), "too long\n"},
		{"a line feed more", strings.Repeat("z", most) + "\n", "too long\n"},
		{"all empty lines", strings.Repeat("\n", most), strings.Repeat("bad\n", most)},
		{"one empty line more", strings.Repeat("\n", most+1), "too long\n"},
		{"many bytes", strings.Repeat("count\n", 1<<16), "too long\n"},
		{"fewer letters than bytes", strings.Repeat("\u00e9", most/2), "bad\n"},
		{"fewer letters than bytes, one more", strings.Repeat("\u00e9", most/2) + "z", "too long\n"},
		{"counts", counts + strings.Repeat("z", most-len(counts)), strings.Repeat("none\n", most/len("count\n")) + "bad\n"},
		{"a frame up to the end", long("frame\njoint 0 ", "", most), "ok\n"},
		{"a frame up to the end, one more", long("frame\njoint 0 ", "", most+1), "too long\n"},
		{"a frame and its end", long("frame\njoint 0 ", "\nend\ncount", most), "ok\n-2\n"},
		{"a load up to the end", long(laid(lone)+"load 0 0 ", "", most), "ok\nok\n"},
		{"a load that is borne", long(laid(nailed)+"load 0 0 -", "\ncarry", most), "ok\nok\n; 0 " + strings.Repeat("7", most-len(laid(nailed)+"load 0 0 -\ncarry")) + "\n"},
		{"a load and one byte more", long(laid(lone)+"load 0 0 ", "", most+1), "too long\n"},
	})
}

func TestFrame(t *testing.T) {
	eleven := strings.Repeat("joint 0 0\n", api.MaxJoints+1)
	hold(t, []talk{
		{"with its end", "frame\n" + lone + "end\ncount\n", "ok\n-2\n"},
		{"the end is the last line", "frame\n" + lone + "end", "ok\n"},
		{"without an end", "frame\n" + lone, "ok\n"},
		{"without an end, without a line feed", "frame\njoint 0 0", "ok\n"},
		{"without an end, all lines are the frame's", "frame\n" + lone + "count\n", "error 1 1\n"},
		{"a second frame ahead of the end", "frame\n" + lone + "frame\n" + lone + "end\ncount\n", "error 1 1\nnone\n"},
		{"up to the first end", "frame\n" + lone + "end\nend\ncount\n", "ok\nbad\n-2\n"},
		{"nothing behind it", "frame", "error 2 0\n"},
		{"nothing behind its line feed", "frame\n", "error 2 0\n"},
		{"no joints", "frame\nend\ncount\n", "error 2 0\nnone\n"},
		{"no joints, but a bar", "frame\nbar 0 1 1 0 0 0\nend\n", "error 2 0\n"},
		{"an empty line", "frame\n\nend\n", "error 1 0\n"},
		{"an empty line behind", "frame\n" + lone + "\nend\n", "error 1 1\n"},
		{"an empty line without an end", "frame\n" + lone + "\n", "error 1 1\n"},
		{"a line that isn't so written", "frame\n" + pole + "hold 1 z 0\nend\n", "error 1 6\n"},
		{"not in lowest terms", "frame\njoint 0 0\njoint 2/4 0\nend\n", "error 1 1\n"},
		{"not in their order", "frame\n" + pole + lone + "end\n", "error 1 6\n"},
		{"too many joints", "frame\n" + eleven + "end\n", "error 2 0\n"},
		{"a bar's joint", "frame\n" + slack + "bar 0 7 1 0 0 0\nend\n", "error 4 1\n"},
		{"a bar's value", "frame\n" + slack + "bar 0 1 0 0 0 0\nend\n", "error 5 1\n"},
		{"a hold's joint", "frame\n" + pole + "hold 9 x 0\nend\n", "error 4 4\n"},
		{"a hold twice", "frame\n" + pole + "hold 0 x 1\nend\n", "error 7 4\n"},
		{"a blank behind frame", "frame \n" + lone + "end\ncount\n", "bad\nbad\nbad\nnone\n"},
		{"a blank ahead of frame", " frame\n" + lone + "end\ncount\n", "bad\nbad\nbad\nnone\n"},
		{"a word behind frame", "frame 1\ncount\n", "bad\nnone\n"},
		{"frame twice in a line", "frame frame\ncount\n", "bad\nnone\n"},
		{"other letters", "Frame\nFRAME\nframes\nfram\n", "bad\nbad\nbad\nbad\n"},
		{"a blank behind end", "frame\n" + lone + "end \nend\ncount\n", "error 1 1\nnone\n"},
		{"a blank ahead of end", "frame\n" + lone + " end\nend\ncount\n", "error 1 1\nnone\n"},
		{"a word behind end", "frame\n" + lone + "end of it\ncount\n", "error 1 1\n"},
		{"a frame's lines ahead of it", pole + "count\n", "bad\nbad\nbad\nbad\nbad\nbad\nnone\n"},
		{"a frame's lines behind it", laid(lone) + pole + "count\n", "ok\nbad\nbad\nbad\nbad\nbad\nbad\n-2\n"},
		{"end by itself", "end\n", "bad\n"},
		{"end by itself, with a frame", laid(lone) + "end\ncount\n", "ok\nbad\n-2\n"},
	})
}

// What was laid down stays if the next frame has a fault, and is gone with its loads if it has none.
func TestNextFrame(t *testing.T) {
	before := laid(pole) + "load 1 1/2 0\n"
	hold(t, []talk{
		{"a text with a fault", before + laid("joint 0\n") + "count\ncarry\ngive\nlimit\n", "ok\nok\nerror 1 0\n0\n1/2 ; -1/2 0 0\n0 0 1/2 0 ; 1/2 ; -1/2 0 0\n4\n"},
		{"a frame with a fault", before + laid(pole+"hold 0 x 1\n") + "carry\n", "ok\nok\nerror 7 4\n1/2 ; -1/2 0 0\n"},
		{"no joints", before + laid("") + "carry\n", "ok\nok\nerror 2 0\n1/2 ; -1/2 0 0\n"},
		{"faults, then a load", before + laid("x\n") + "load 1 1 0\ncarry\n", "ok\nok\nerror 1 0\nok\n3/2 ; -3/2 0 0\n"},
		{"a fault ahead of any frame", laid("x\n") + "count\nload 0 0 0\n", "error 1 0\nnone\nnone\n"},
		{"a fault, then a frame", laid("x\n") + laid(pole) + "count\n", "error 1 0\nok\n0\n"},
		{"the same again", before + laid(pole) + "carry\ngive\nlimit\n", "ok\nok\nok\n0 ; 0 0 0\n0 0 0 0 ; 0 ; 0 0 0\nerror 9 0\n"},
		{"another", before + laid(nailed) + "count\ncarry\nload 1 0 0\nload 0 1 0\ncarry\n", "ok\nok\nok\n0\n; 0 0\nerror 4 2\nok\n; -1 0\n"},
		{"loads after it", before + laid(pole) + "load 1 -1 0\ncarry\nlimit\n", "ok\nok\nok\nok\n-1 ; 1 0 0\n1\n"},
	})
}

func TestLoad(t *testing.T) {
	bad := func(what, line string) talk {
		return talk{what, laid(pole) + "load 1 1 0\n" + line + "\ncarry\n", "ok\nok\nbad\n1 ; -1 0 0\n"}
	}
	hold(t, []talk{
		{"ahead of any frame", "load 0 1 1\n", "none\n"},
		{"alone, ahead of any frame", "load\n", "none\n"},
		{"not so written, ahead of any frame", "load x\nload \nload  0 1 1\nload 0 2/4 1\nload 12 1 1 1 1\n", "none\nnone\nnone\nnone\nnone\n"},
		{"a blank ahead, ahead of any frame", " load 0 1 1\n", "bad\n"},
		{"another word, ahead of any frame", "loads 0 1 1\nload\t0 1 1\n", "bad\nbad\n"},
		{"it doesn't count later", "load 1 1 0\n" + laid(pole) + "carry\n", "none\nok\n0 ; 0 0 0\n"},
		{"fractions", laid(pole) + "load 1 -7/3 5/2\ncarry\n", "ok\nok\n-7/3 ; 7/3 0 -5/2\n"},
		{"noughts", laid(pole) + "load 1 0 0\ncarry\n", "ok\nok\n0 ; 0 0 0\n"},
		{"all of them together", laid(pole) + "load 1 1 0\nload 0 5 1/2\nload 1 1/2 3\ncarry\n", "ok\nok\nok\nok\n3/2 ; -13/2 -1/2 -3\n"},
		bad("alone", "load"),
		bad("a blank behind", "load "),
		bad("too few words", "load 1"),
		bad("one too few", "load 1 1"),
		bad("one too few, a blank behind", "load 1 1 "),
		bad("one too many", "load 1 1 1 1"),
		bad("two blanks behind load", "load  1 1 0"),
		bad("two blanks behind the joint", "load 1  1 0"),
		bad("two blanks between the fractions", "load 1 1  0"),
		bad("a blank ahead", " load 1 1 0"),
		bad("a blank at the end", "load 1 1 0 "),
		bad("a tab between", "load 1\t1 0"),
		bad("two digits", "load 10 1 0"),
		bad("two digits, a nought ahead", "load 01 1 0"),
		bad("a sign", "load -1 1 0"),
		bad("a plus", "load +1 1 0"),
		bad("a sign alone", "load - 1 0"),
		bad("a letter", "load x 1 0"),
		bad("no digit of the ten", "load \u0661 1 0"),
		bad("just below the digits", "load / 1 0"),
		bad("just above the digits", "load : 1 0"),
		bad("a fraction of a joint", "load 1/1 1 0"),
		bad("not in lowest terms, X", "load 1 2/4 0"),
		bad("not in lowest terms, Y", "load 1 0 2/4"),
		bad("over 1", "load 1 2/1 0"),
		bad("over 0", "load 1 1/0 0"),
		bad("a nought ahead", "load 1 01 0"),
		bad("noughts", "load 1 0 00"),
		bad("less than 0 that is 0", "load 1 1 -0"),
		bad("a nought ahead below the bar", "load 1 1/02 0"),
		bad("0 over a number", "load 1 0/2 0"),
		bad("a plus ahead", "load 1 +1 0"),
		bad("a sign below the bar", "load 1 1/-2 0"),
		bad("two signs", "load 1 --1 0"),
		bad("a point", "load 1 1.5 0"),
		bad("no digits", "load 1 - 0"),
		bad("words", "load 1 one 0"),
		bad("a carriage return", "load 1 1 0\r"),
		bad("another word", "loads 1 1 0"),
		bad("great letters", "LOAD 1 1 0"),
	})
}

func TestFaultsOfLoads(t *testing.T) {
	full := laid(pole) + strings.Repeat("load 1 1 0\n", api.MaxLoads)
	fine := strings.Repeat("ok\n", 1+api.MaxLoads)
	hold(t, []talk{
		{"no such joint", laid(pole) + "load 2 1 0\ncarry\n", "ok\nerror 4 4\n0 ; 0 0 0\n"},
		{"the greatest digit", laid(pole) + "load 9 1 0\n", "ok\nerror 4 4\n"},
		{"the second", laid(pole) + "load 1 1 0\nload 2 1 0\ncarry\n", "ok\nok\nerror 4 5\n1 ; -1 0 0\n"},
		{"again: the first one doesn't count", laid(pole) + "load 2 1 0\nload 3 1 0\nload 1 1 0\nload 4 1 0\nload 5 1 0\ncarry\n", "ok\nerror 4 4\nerror 4 4\nok\nerror 4 5\nerror 4 5\n1 ; -1 0 0\n"},
		{"not so written goes ahead", laid(pole) + "load 2 2/4 0\n", "ok\nbad\n"},
		{"no bars, no holds", laid(lone) + "load 1 1 0\nload 0 0 0\nload 1 1 0\ncarry\n", "ok\nerror 4 0\nok\nerror 4 1\n;\n"},
		{"as many as may be", full + "carry\nlimit\n", fine + "20 ; -20 0 0\n1/10\n"},
		{"one more", full + "load 1 7 0\ncarry\nlimit\n", fine + "error 2 4\n20 ; -20 0 0\n1/10\n"},
		{"two more", full + "load 1 7 0\nload 0 7 0\ncarry\n", fine + "error 2 4\nerror 2 4\n20 ; -20 0 0\n"},
		{"one more, at no joint", full + "load 7 7 0\ncarry\n", fine + "error 2 4\n20 ; -20 0 0\n"},
		{"one more, not so written", full + "load 1 7\ncarry\n", fine + "bad\n20 ; -20 0 0\n"},
		{"a fault is none of them", laid(pole) + strings.Repeat("load 5 1 0\n", 30) + "load 1 1 0\ncarry\n", "ok\n" + strings.Repeat("error 4 4\n", 30) + "ok\n1 ; -1 0 0\n"},
		{"another frame has room again", full + laid(pole) + "load 1 7 0\ncarry\n", fine + "ok\nok\n7 ; -7 0 0\n"},
	})
}

// asks has all that may be asked, a line each.
const asks = "count\ncounts\ncarry\ngive\nlimit\n"

func TestAsks(t *testing.T) {
	hold(t, []talk{
		{"ahead of any frame", asks, "none\nnone\nnone\nnone\nnone\n"},
		{"a pole", laid(pole) + asks, "ok\n0\n4 0 0\n0 ; 0 0 0\n0 0 0 0 ; 0 ; 0 0 0\nerror 9 0\n"},
		{"a pole that is pulled", laid(pole) + "load 1 1 0\n" + asks, "ok\nok\n0\n4 0 0\n1 ; -1 0 0\n0 0 1 0 ; 1 ; -1 0 0\n2\n"},
		{"a pole that is pushed", laid(pole) + "load 1 -1/3 0\n" + asks, "ok\nok\n0\n4 0 0\n-1/3 ; 1/3 0 0\n0 0 -1/3 0 ; -1/3 ; 1/3 0 0\n3\n"},
		{"loads where holds are", laid(pole) + "load 0 1 2\n" + asks, "ok\nok\n0\n4 0 0\n0 ; -1 -2 0\n0 0 0 0 ; 0 ; -1 -2 0\nerror 9 0\n"},
		{"a tent", laid(tent) + "load 2 0 -1\n" + asks, "ok\nok\n0\n6 0 0\n-1/2 -1/2 ; 1/2 1/2 -1/2 1/2\n" +
			"0 0 1/2 0 -1/24 -11/24 ; -1/2 -1/2 ; 1/2 1/2 -1/2 1/2\n6\n"},
		{"two bars beside each other", laid(doubled) + "load 1 4 0\n" + asks, "ok\nok\n1\n4 1 0\nerror 9 0\n0 0 1 0 ; 1 3 ; -4 0 0\n1\n"},
		{"it can go up, by itself", laid(roller) + asks, "ok\n-1\n3 0 1\n0 ; 0 0\nerror 9 0\nerror 9 0\n"},
		{"it can go up, and is pushed there", laid(roller) + "load 1 0 1\n" + asks, "ok\nok\n-1\n3 0 1\nerror 8 0\nerror 8 0\n0\n"},
		{"no bars", laid(nailed) + asks, "ok\n0\n2 0 0\n; 0 0\n1/2 0 ; ; 0 0\nerror 9 0\n"},
		{"no bars, a load", laid(nailed) + "load 0 3 -1/2\n" + asks, "ok\nok\n0\n2 0 0\n; -3 1/2\n1/2 0 ; ; -3 1/2\nerror 9 0\n"},
		{"no holds", laid(slack) + asks, "ok\n-3\n1 0 3\n0 ;\nerror 9 0\nerror 9 0\n"},
		{"no holds, a pull at both ends", laid(slack) + "load 0 -1 0\nload 1 1 0\n" + asks, "ok\nok\nok\n-3\n1 0 3\n1 ;\nerror 9 0\n2\n"},
		{"no holds, a pull at one end", laid(slack) + "load 1 1 0\n" + asks, "ok\nok\n-3\n1 0 3\nerror 8 0\nerror 8 0\n0\n"},
		{"neither bars nor holds", laid(lone) + asks, "ok\n-2\n0 0 2\n;\nerror 9 0\nerror 9 0\n"},
		{"neither, a load", laid(lone) + "load 0 1 0\n" + asks, "ok\nok\n-2\n0 0 2\nerror 8 0\nerror 8 0\n0\n"},
		{"neither, two loads that are even", laid(lone) + "load 0 1 0\nload 0 -1 0\n" + asks, "ok\nok\nok\n-2\n0 0 2\n;\nerror 9 0\nerror 9 0\n"},
		{"asked again", laid(pole) + asks + "load 1 1 0\ngive\ngive\n", "ok\n0\n4 0 0\n0 ; 0 0 0\n0 0 0 0 ; 0 ; 0 0 0\nerror 9 0\nok\n0 0 1 0 ; 1 ; -1 0 0\n0 0 1 0 ; 1 ; -1 0 0\n"},
	})
}

// A verb that isn't alone is none of them, whether a frame is laid down or not.
func TestAsksThatArentAlone(t *testing.T) {
	for _, verb := range strings.Fields(asks) {
		for _, line := range []string{verb + " ", " " + verb, verb + " 1", verb + " " + verb, verb + "s s", verb + "\t", verb + "\r", verb + ";", strings.ToUpper(verb), verb[1:], verb + "\x00", "x" + verb} {
			hold(t, []talk{
				{"without a frame", lines(line), "bad\n"},
				{"with a frame", laid(pole) + lines(line, "count"), "ok\nbad\n0\n"},
			})
		}
	}
}

func TestOtherLines(t *testing.T) {
	for _, line := range []string{
		"what", "ok", "none", "bad", "error 1 0", "too long", "0", ";", "joint 0  0", "bar 0 1", "hold 0 z 0", "swing", "Count", "countss", "framed", "ends", "help", "count counts", "-",
		"\x00", "\xff", "\xff\xfe\x80", "\r", "\t", "\v\f", "\u2028", "\u00a0count", "count\u00a0", "\ufeffcount", "\ufeffframe", "fr\xffame", "load\x00 1 1 0", "\u00e9", "\U0001f600", strings.Repeat("\x80", 300),
	} {
		hold(t, []talk{
			{"without a frame", lines(line, "count"), "bad\nnone\n"},
			{"at the end", line, "bad\n"},
			{"with a frame", laid(pole) + lines("load 1 1 0", line, "carry"), "ok\nok\nbad\n1 ; -1 0 0\n"},
			{"within a frame", "frame\n" + lone + lines(line, "end", "count"), "error 1 1\nnone\n"},
		})
	}
}
