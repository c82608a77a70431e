package num

import "math/bits"

// Root is the root of x, which is above 0: whole times 2 to the power of by, if more isn't told; else more than that, and less than whole+1 times that power. whole has 63 bits or 64.
func (x Frac) Root() (whole uint64, by int, more bool) {
	low := x.under()
	// 2 to the power of half times the root has as many bits as a word, or one less: what stands below them says only that there is more.
	half := (2*wordBits - 1 - x.top.bits() + low.bits()) >> 1
	square, rest := divideNats(raised(x.top, 2*half), raised(low, -2*half))
	whole, left := rootOfWords(square.word(1), square.word(0))
	return whole, -half, left || len(rest) > 0
}

// bits is how many bits x has, from the highest one that isn't 0 on.
func (x nat) bits() int {
	n := len(x)
	if n == 0 {
		return 0
	}
	return n*wordBits - bits.LeadingZeros64(x[n-1])
}

// raised is x times 2 to the power of by; x itself if by is below 0.
func raised(x nat, by int) nat {
	if by <= 0 {
		return x
	}
	words := by / wordBits
	return trim(append(make(nat, words), shiftedUp(x, by%wordBits)...))
}

// rootOfWords is the root, whole, of a number of two words, and whether its square leaves anything.
func rootOfWords(high, low uint64) (root uint64, left bool) {
	for bit := uint64(1) << (wordBits - 1); bit != 0; bit >>= 1 {
		h, l := bits.Mul64(root|bit, root|bit)
		if h < high || h == high && l <= low {
			root |= bit
		}
	}
	h, l := bits.Mul64(root, root)
	return root, h != high || l != low
}
