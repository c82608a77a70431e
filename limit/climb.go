package limit

import (
	"slices"

	"rafter/api"
	"rafter/balance"
	"rafter/num"
	"rafter/rows"
)

// climb is the search for the greatest factor, from stress to stress (the simplex method). Of its columns the first are the holds, then there is one for the loads, then the bars.
type climb struct {
	puts  []rows.Row // of each column: what it puts at each joint, X and Y
	loads int        // which column that of the loads is
	ends  []ends     // of each bar
	at    rows.Row   // where it is: the stress of each hold, the factor, the stress of each bar
	// A bar that is set keeps its stress. What is loose (the other bars, the holds, the loads) hangs on those that are set, and not on each other.
	set []bool
}

// climbOf begins where nothing is borne. It is without bound if the holds bear the loads by themselves: that is told from the loads standing behind the holds, ahead of the bars.
func climbOf(f api.Frame, l []api.Load) (c *climb, bounded bool) {
	puts := rows.Turned(balance.Of(f), balance.Parts(f))
	bars, holds := puts[:len(f.Bars)], puts[len(f.Bars):]
	loads := balance.Against(f, l).Over(num.Whole(-1))
	c = &climb{puts: slices.Concat(holds, []rows.Row{loads}, bars), loads: len(holds), ends: endsOf(f)}
	c.at = make(rows.Row, len(c.puts))
	heads := rows.Heads(rows.Turned(c.puts, balance.Ways(f)), len(c.puts))
	for bar := range len(bars) {
		c.set = append(c.set, !slices.Contains(heads, c.column(bar)))
	}
	return c, slices.Contains(heads, c.loads)
}

func (c *climb) column(bar int) int { return c.loads + 1 + bar }

// loose is the columns of all that isn't set.
func (c *climb) loose() []int {
	var l []int
	for k := range c.loads + 1 {
		l = append(l, k)
	}
	for bar, set := range c.set {
		if !set {
			l = append(l, c.column(bar))
		}
	}
	return l
}

// putBy is what these columns put at the joints.
func (c *climb) putBy(columns []int) []rows.Row {
	var l []rows.Row
	for _, k := range columns {
		l = append(l, c.puts[k])
	}
	return l
}

// goUp goes on for as long as the factor can grow, and answers the motion along which the frame gives way then.
func (c *climb) goUp() rows.Row {
	for {
		m := c.motion()
		bar, sign := c.helper(m)
		if sign == 0 {
			return m
		}
		c.step(bar, sign)
	}
}

// motion is one along which the loads work, more than nothing, and no bar is stretched that is loose. How much one that is set is stretched, over this work, is how much the factor grows with its stress.
func (c *climb) motion() rows.Row {
	still := slices.DeleteFunc(c.loose(), func(column int) bool { return column == c.loads })
	loads := c.puts[c.loads]
	for _, m := range rows.Nulls(c.putBy(still), len(loads)) {
		if sign := loads.Times(m).Sign(); sign != 0 {
			return m.Over(num.Whole(sign))
		}
	}
	return nil // never: the loads don't hang on what is still
}

// helper is the first of the bars that are set by which the factor can still grow, and in which way: sign is above 0 if it grows with its stress, below if it grows when that falls, 0 if there is no such bar.
func (c *climb) helper(motion rows.Row) (bar, sign int) {
	for bar, e := range c.ends {
		if !c.set[bar] {
			continue
		}
		k := c.column(bar)
		sign := -c.puts[k].Times(motion).Sign() // what a bar puts at its joints pulls them together
		if sign != 0 && !c.at[k].Equal(e.toward(sign)) {
			return bar, sign
		}
	}
	return 0, 0
}

// step lets a bar that was set go, upwards or, if sign is below 0, downwards, until one gives (it may be this one): that one is set then. Where several bars help, or give at once, it's always the first: so no round of steps that go nowhere comes back to where it began (Bland).
func (c *climb) step(bar, sign int) {
	way := c.way(bar, sign)
	far, gives := nearest(len(c.ends), c.room(way))
	c.at = c.at.Less(way, far.Neg())
	c.set[bar] = false
	c.set[gives] = true
}

// way is how all that is loose changes, if a bar that is set changes by sign.
func (c *climb) way(bar, sign int) rows.Row {
	columns := append(c.loose(), c.column(bar))
	l := rows.Turned(c.putBy(columns), len(c.puts[c.loads]))
	change := rows.Nulls(l, len(columns))[0] // the only one: it is 1 at the last column
	way := make(rows.Row, len(c.at))
	for i, k := range columns {
		way[k] = change[i].Times(num.Whole(sign))
	}
	return way
}

// room is asked of each bar how far one can go along a way until it gives; one that doesn't change along it never gives.
func (c *climb) room(way rows.Row) func(bar int) (far num.Frac, gives bool) {
	return func(bar int) (num.Frac, bool) {
		k := c.column(bar)
		left := c.ends[bar].toward(way[k].Sign()).Minus(c.at[k])
		return left.Over(way[k]), !way[k].IsZero()
	}
}

// nearest is the least room that a bar has, and the first that has so little.
func nearest(bars int, room func(bar int) (far num.Frac, gives bool)) (least num.Frac, first int) {
	first = -1
	for bar := range bars {
		if far, gives := room(bar); gives && (first < 0 || far.Compare(least) < 0) {
			least, first = far, bar
		}
	}
	return least, first
}

// stress is what bears the loads where c is.
func (c *climb) stress() api.Stress {
	return api.Stress{Bars: c.at[c.loads+1:].Texts(), Holds: c.at[:c.loads].Texts()}
}

// factor is how many times.
func (c *climb) factor() api.Q { return c.at[c.loads].Q() }
