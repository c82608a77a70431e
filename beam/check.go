package beam

import (
	"rafter/api"
	"rafter/num"
)

// Check tells the first fault of b.
func Check(b api.Beam) api.Fault {
	if len(b.Props) > api.MaxProps || len(b.Puts) > api.MaxPuts {
		return api.Fault{Code: api.ErrMany}
	}
	long := num.Of(b.Long)
	if long.Sign() <= 0 || num.Of(b.Stiff).Sign() <= 0 {
		return api.Fault{Code: api.ErrValue}
	}
	if g := checkProps(b.Props, long); g.Code != api.OK {
		return g
	}
	for i := range len(b.Puts) {
		if e := checkPut(b.Puts[i], long); e != api.OK {
			return api.Fault{Code: e, At: len(b.Props) + i}
		}
	}
	return api.Fault{}
}

func checkProps(props []api.Prop, long num.Frac) api.Fault {
	var ahead num.Frac
	for i := range len(props) {
		at := num.Of(props[i].At)
		if !within(at, long) {
			return api.Fault{Code: api.ErrValue, At: i}
		}
		if i > 0 && at.Compare(ahead) <= 0 {
			return api.Fault{Code: api.ErrOrder, At: i}
		}
		ahead = at
	}
	return api.Fault{}
}

func checkPut(p api.Put, long num.Frac) api.Errno {
	if p.Kind != api.Point && p.Kind != api.Twist && p.Kind != api.Even {
		return api.ErrKind
	}
	at, to := num.Of(p.At), num.Of(p.To)
	if !within(at, long) || p.Kind == api.Even && !within(to, long) {
		return api.ErrValue
	}
	if p.Kind == api.Even && to.Compare(at) <= 0 {
		return api.ErrOrder
	}
	return api.OK
}

func checkWish(b api.Beam, w api.Wish) api.Errno {
	switch w.Kind {
	case api.Push:
		if w.N < 0 || w.N >= len(b.Props) {
			return api.ErrJoint
		}
	case api.Shear, api.Bend:
		if !within(num.Of(w.At), num.Of(b.Long)) {
			return api.ErrValue
		}
	default:
		return api.ErrKind
	}
	return api.OK
}

// within: the ends of a beam are on it.
func within(at, long num.Frac) bool { return at.Sign() >= 0 && at.Compare(long) <= 0 }
