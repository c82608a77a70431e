package pebble

// pebblesEach: one for each way in which a point can go.
const pebblesEach = 2

// board is a graph whose points have pebbles. An edge that is taken has a pebble of one of its ends on it for good; which end gives it may change.
type board struct {
	loose []int            // of each point, how many of its pebbles lie on no edge
	paid  [][]int          // of each point, the other ends of the edges on which its pebbles lie
	seen  map[int]struct{} // the points that a search needn't ask any more
}

func newBoard(n int) *board {
	b := &board{loose: make([]int, n), paid: make([][]int, n), seen: map[int]struct{}{}}
	for p := range b.loose {
		b.loose[p] = pebblesEach
	}
	return b
}

// take lays a pebble on e, if it doesn't hang together with those that are taken, and tells whether it did.
//
// If all pebbles of both its ends can be loose at once, then of any k points with these two among them at most 2k-4 edges join two, since their pebbles lie on no more: one more is within 2k-3. If they can't, then the k points that the searches came by have 3 loose pebbles at most, and pay for no edge that leads away: 2k-3 edges or more join two of them, and e would be too many.
func (b *board) take(e [2]int) bool {
	for b.loose[e[0]]+b.loose[e[1]] < 2*pebblesEach {
		if !b.fetch(e[0], e[1]) && !b.fetch(e[1], e[0]) {
			return false
		}
	}
	b.loose[e[0]]--
	b.paid[e[0]] = append(b.paid[e[0]], e[1])
	return true
}

// fetch makes one more pebble of p loose, but none of keep's goes for it.
func (b *board) fetch(p, keep int) bool {
	clear(b.seen)
	b.seen[p], b.seen[keep] = struct{}{}, struct{}{}
	if !b.relieve(p) {
		return false
	}
	b.loose[p]++
	return true
}

// relieve has another point pay for one of p's edges.
func (b *board) relieve(p int) bool {
	for i, q := range b.paid[p] {
		if b.spare(q) {
			// No search goes back to p, so that its edges still stand as they did.
			b.paid[p] = append(b.paid[p][:i], b.paid[p][i+1:]...)
			b.paid[q] = append(b.paid[q], p)
			return true
		}
	}
	return false
}

// spare takes a loose pebble of q, or one that q gets back because another point pays in its place.
func (b *board) spare(q int) bool {
	if _, ok := b.seen[q]; ok {
		return false
	}
	b.seen[q] = struct{}{}
	if b.loose[q] > 0 {
		b.loose[q]--
		return true
	}
	return b.relieve(q)
}
