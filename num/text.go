package num

import (
	"strconv"
	"strings"
)

// The most digits that surely fit into a word, and 10 to the power of that.
const (
	chunkDigits = 19
	chunkRange  = 10_000_000_000_000_000_000
)

// isDigits: only the ten digits count, and there must be one.
func isDigits(s string) bool {
	for i := range len(s) {
		if s[i] < '0' || s[i] > '9' {
			return false
		}
	}
	return s != ""
}

// parseNat reads digits; s has nothing else.
func parseNat(s string) nat {
	s = strings.TrimLeft(s, "0")
	x := make(nat, 0, len(s)/chunkDigits+1)
	for s != "" {
		n := len(s) % chunkDigits
		if n == 0 {
			n = chunkDigits
		}
		x = appendChunk(x, parseChunk(s[:n]))
		s = s[n:]
	}
	return x
}

func parseChunk(s string) uint64 {
	var w uint64
	for i := range len(s) {
		w = w*10 + uint64(s[i]-'0')
	}
	return w
}

// appendChunk makes x, in its own memory, what it is with one more chunk of digits behind it.
func appendChunk(x nat, chunk uint64) nat {
	over := chunk
	for i := range len(x) {
		over, x[i] = multiplyAdd(x[i], chunkRange, over)
	}
	if over != 0 {
		x = append(x, over)
	}
	return x
}

// text has no needless noughts. It is made by halves: to divide by long numbers takes far fewer divisions of words than to go through them chunk by chunk.
func (x nat) text() string {
	var b strings.Builder
	writeDigits(&b, x, powersOfTen(x), false)
	return b.String()
}

// powersOfTen is chunkRange, its square, the square of that and so on, until the square of the last one is surely above x.
func powersOfTen(x nat) []nat {
	last := nat{chunkRange}
	l := []nat{last}
	for 2*len(last)-1 <= len(x) {
		last = multiplyNats(last, last)
		l = append(l, last)
	}
	return l
}

// writeDigits writes x, which is below the square of the last of the powers (below chunkRange, if there are none), filled up with noughts or not.
func writeDigits(b *strings.Builder, x nat, powers []nat, fill bool) {
	n := len(powers)
	if n == 0 {
		writeChunk(b, x.word(0), fill)
		return
	}
	high, low := divideNats(x, powers[n-1])
	if fill || len(high) > 0 {
		writeDigits(b, high, powers[:n-1], fill)
		fill = true
	}
	writeDigits(b, low, powers[:n-1], fill)
}

func writeChunk(b *strings.Builder, chunk uint64, fill bool) {
	s := strconv.FormatUint(chunk, 10)
	if fill {
		for range chunkDigits - len(s) {
			b.WriteByte('0')
		}
	}
	b.WriteString(s)
}
