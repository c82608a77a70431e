package rows

import (
	"slices"

	"rafter/num"
)

// stairs are rows that ask what others asked, each of which begins further right than the one above it.
type stairs struct {
	wide  int
	rows  []Row
	heads []int // of each row the column at which it begins: the first that isn't 0
}

// stairsOf makes stairs of l. Rows of l are not changed: what becomes of one is a new row.
func stairsOf(l []Row, wide int) stairs {
	s := stairs{wide: wide}
	left := slices.Clone(l)
	for c := range wide {
		at := shortest(left, c)
		if at < 0 {
			continue
		}
		step := left[at]
		left = slices.Delete(left, at, at+1)
		for i, r := range left {
			if !r[c].IsZero() {
				left[i] = r.Less(step, r[c].Over(step[c]))
			}
		}
		s.rows, s.heads = append(s.rows, step), append(s.heads, c)
	}
	return s
}

// shortest is the number of the row that has, of those that aren't 0 at column c, the fewest numbers that aren't 0; -1: there is none. It is taken from the others: the fewer it has, the more noughts these keep, and the shorter their fractions stay.
func shortest(l []Row, c int) int {
	at, fewest := -1, 0
	for i, r := range l {
		if r[c].IsZero() {
			continue
		}
		if n := r.filled(); at < 0 || n < fewest {
			at, fewest = i, n
		}
	}
	return at
}

// filled is how many numbers of r aren't 0.
func (r Row) filled() int {
	n := 0
	for _, x := range r {
		if !x.IsZero() {
			n++
		}
	}
	return n
}

// Less is r less by times s.
func (r Row) Less(s Row, by num.Frac) Row {
	rest := make(Row, len(r))
	for c := range len(r) {
		rest[c] = r[c]
		if !s[c].IsZero() {
			rest[c] = r[c].Minus(s[c].Times(by))
		}
	}
	return rest
}

// Over is r over by, which isn't 0.
func (r Row) Over(by num.Frac) Row {
	part := make(Row, len(r))
	for c := range len(r) {
		part[c] = r[c].Over(by)
	}
	return part
}

// clean makes each row 1 where it begins, and 0 where another one begins. It goes upwards, so that what is taken from a row is clean already and fills none of the noughts that were made.
func (s stairs) clean() {
	for i := len(s.rows) - 1; i >= 0; i-- {
		r := s.rows[i].Over(s.rows[i][s.heads[i]])
		for k := i + 1; k < len(s.rows); k++ {
			if by := r[s.heads[k]]; !by.IsZero() {
				r = r.Less(s.rows[k], by)
			}
		}
		s.rows[i] = r
	}
}

// null is what all rows of s, which are clean, make 0, is 1 at column c, and 0 at all other columns at which none begins.
func (s stairs) null(c int) Row {
	x := make(Row, s.wide)
	x[c] = num.Of("1")
	for i, head := range s.heads {
		x[head] = s.rows[i][c].Neg()
	}
	return x
}
