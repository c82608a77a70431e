package rows

import "rafter/num"

// Polynomial is the determinant of l, which has as many rows as columns, when x is added where both are the same: what the powers of x are multiplied by there, from the constant number on. It is the product of (x + e) over all numbers e by which l multiplies something. Where l is whole, so is all that comes up on the way (Faddeev, LeVerrier).
func Polynomial(l []Row) Row {
	n := len(l)
	p := make(Row, n+1)
	p[n] = num.Whole(1)
	rest := Blank(n, n)
	for k := n; k > 0; k-- {
		for i := range n {
			rest[i][i] = rest[i][i].Plus(p[k])
		}
		rest = lessProduct(l, rest)
		p[k-1] = trace(rest).Over(num.Whole(k - 1 - n))
	}
	return p
}

// lessProduct is 0 less l times m.
func lessProduct(l, m []Row) []Row {
	rest := Blank(len(l), len(l))
	for i, r := range l {
		for c, by := range r {
			if !by.IsZero() {
				rest[i] = rest[i].Less(m[c], by)
			}
		}
	}
	return rest
}

func trace(l []Row) num.Frac {
	var sum num.Frac
	for i, r := range l {
		sum = sum.Plus(r[i])
	}
	return sum
}
