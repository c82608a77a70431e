package limit

import (
	"rafter/api"
	"rafter/num"
)

// ends are between which a bar holds: Least, then Most.
type ends [2]num.Frac

func endsOf(f api.Frame) []ends {
	l := make([]ends, len(f.Bars))
	for i, b := range f.Bars {
		l[i] = ends{num.Of(b.Least), num.Of(b.Most)}
	}
	return l
}

// toward is the end to which a stress goes that grows, or falls, if sign is below 0.
func (e ends) toward(sign int) num.Frac {
	if sign < 0 {
		return e[0]
	}
	return e[1]
}

func (e ends) hold(t num.Frac) bool { return t.Compare(e[0]) >= 0 && t.Compare(e[1]) <= 0 }
