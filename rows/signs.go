package rows

// Signs is how many squares are added, and how many subtracted, at the fewest, in what l makes of a number for each column: each number of l times that of its column and that of its row, added. l, Turned, is itself. However many ways there are to tell it by squares that don't hang together, these two are always the same (Sylvester).
func Signs(l []Row) (plus, minus int) {
	for {
		row, column := pivot(l)
		if row < 0 {
			return plus, minus
		}
		if row != column || l[row][column].Sign() > 0 {
			plus++
		}
		if row != column || l[row][column].Sign() < 0 {
			minus++
		}
		l = swept(l, row, column)
	}
}

// pivot is the place of a number of l that isn't 0; -1, -1: all are 0. It is one whose row and column are the same, if there is such: that is a square by itself. Of these the shortest row is taken, as in stairs. Else all of them are 0: then any other, times both its numbers, is the square of half their sum less that of half their difference.
func pivot(l []Row) (row, column int) {
	row, column = -1, -1
	fewest := 0
	for i, r := range l {
		if n := r.filled(); !r[i].IsZero() && (row < 0 || n < fewest) {
			row, column, fewest = i, i, n
		}
	}
	if row >= 0 {
		return row, column
	}
	for i, r := range l {
		for c := range i {
			if !r[c].IsZero() {
				return i, c
			}
		}
	}
	return -1, -1
}

// swept is what is left of l when what the pivot's squares make is taken from it: its row and its column, and those of the same numbers, are 0 then.
func swept(l []Row, row, column int) []Row {
	rest := make([]Row, len(l))
	by := l[row][column]
	for i, r := range l {
		rest[i] = r.Less(l[row], r[column].Over(by))
		if row != column {
			rest[i] = rest[i].Less(l[column], r[row].Over(by))
		}
	}
	return rest
}
