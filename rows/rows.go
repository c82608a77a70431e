// Package rows has fractions in rows: how many of them don't hang together, what they all leave free, and what solves them.
package rows

import (
	"slices"

	"rafter/api"
	"rafter/num"
)

// Row has a number for each column. What it asks is that these, each times its column's unknown, add up to 0 (or to what else is told).
type Row []num.Frac

// Blank is rows of noughts.
func Blank(high, wide int) []Row {
	l := make([]Row, high)
	for i := range high {
		l[i] = make(Row, wide)
	}
	return l
}

// Turned has a row for each of the columns of l.
func Turned(l []Row, wide int) []Row {
	t := Blank(wide, len(l))
	for i, r := range l {
		for c := range wide {
			t[c][i] = r[c]
		}
	}
	return t
}

// Part is what l has where both the row and the column are among those that at tells.
func Part(l []Row, at []int) []Row {
	part := Blank(len(at), len(at))
	for i, row := range at {
		for k, column := range at {
			part[i][k] = l[row][column]
		}
	}
	return part
}

// Rank is how many of the rows of l don't hang together.
func Rank(l []Row, wide int) int { return len(stairsOf(l, wide).rows) }

// Heads is the columns of l that aren't free (see Nulls): none of them is a sum of multiples of those ahead of it.
func Heads(l []Row, wide int) []int { return stairsOf(l, wide).heads }

// Nulls has, of each column that is free, what all rows of l make 0, is 1 there, and 0 at all other free ones. A column is free if something that all rows make 0 isn't 0 there and is 0 at all columns behind it.
func Nulls(l []Row, wide int) []Row {
	s := stairsOf(l, wide)
	s.clean()
	var nulls []Row
	for c := range wide {
		if !slices.Contains(s.heads, c) {
			nulls = append(nulls, s.null(c))
		}
	}
	return nulls
}

// Solve is what each row of l makes as much as sums tells of it: ErrNone if nothing is so, ErrFree if more than one thing is.
func Solve(l []Row, wide int, sums Row) (Row, api.Errno) {
	s := stairsOf(joined(l, sums), wide+1)
	if slices.Contains(s.heads, wide) {
		return nil, api.ErrNone
	}
	if len(s.heads) < wide {
		return nil, api.ErrFree
	}
	s.clean()
	x := make(Row, wide)
	for i, head := range s.heads {
		x[head] = s.rows[i][wide]
	}
	return x, api.OK
}

// joined has the sums as one more column.
func joined(l []Row, sums Row) []Row {
	wider := make([]Row, len(l))
	for i, r := range l {
		wider[i] = append(slices.Clone(r), sums[i])
	}
	return wider
}

// Of reads numbers into a row.
func Of(l []api.Q) Row {
	r := make(Row, len(l))
	for i := range len(l) {
		r[i] = num.Of(l[i])
	}
	return r
}

// Texts writes the numbers of r, in a list of its own.
func (r Row) Texts() []api.Q {
	l := make([]api.Q, len(r))
	for i := range len(r) {
		l[i] = r[i].Q()
	}
	return l
}

// Times is what r asks to be 0: each of its numbers times that of x, added.
func (r Row) Times(x Row) num.Frac {
	var sum num.Frac
	for i := range len(r) {
		if !r[i].IsZero() && !x[i].IsZero() {
			sum = sum.Plus(r[i].Times(x[i]))
		}
	}
	return sum
}
