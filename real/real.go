// Package real is layer 1: floats, to the last bit: see shared/doc/01-real.md.
package real

import (
	"math"
	"math/bits"

	"deckhand/api"
)

// The bits of a float, from the top: its sign, 11 of its exponent, 52 of its fraction.
const (
	signBit  = 1 << 63
	fracBits = 52
	fracMask = 1<<fracBits - 1
	expMask  = 1<<11 - 1
	infBits  = expMask << fracBits // of the positive infinity
)

// Powers of 2.
const (
	leastExp = -1074 // the least float above 0
	mostExp  = 1023  // the greatest one that is a float
)

// Class is a float's class.
func Class(f float64) int {
	size := math.Float64bits(f) &^ signBit
	switch {
	case size > infBits:
		return api.ClassNone
	case size == infBits:
		return api.ClassInf
	case size == 0:
		return api.ClassNull
	case size <= fracMask:
		return api.ClassSmall
	}
	return api.ClassFull
}

// Minus tells whether a float has a minus.
func Minus(f float64) bool {
	return math.Float64bits(f) >= signBit && Class(f) != api.ClassNone
}

// Parts are an odd number and a power of 2.
func Parts(f float64) (int, int) {
	b := math.Float64bits(f)
	size, e := b&fracMask, leastExp
	switch Class(f) {
	case api.ClassSmall:
	case api.ClassFull:
		size |= 1 << fracBits
		e += int(b>>fracBits&expMask) - 1
	default:
		return 0, 0
	}
	zeros := bits.TrailingZeros64(size)
	m := int(size >> zeros)
	if Minus(f) {
		m = -m
	}
	return m, e + zeros
}

// Make is the nearest float.
func Make(m, e int) float64 {
	if m < 0 {
		// The least int is its own negative, and as an unsigned number its own size.
		return math.Float64frombits(signBit | sizeBits(uint64(-m), e))
	}
	return math.Float64frombits(sizeBits(uint64(m), e))
}

// sizeBits is the bits of the float that is nearest to size * 2^e.
func sizeBits(size uint64, e int) uint64 {
	switch {
	case size == 0 || e < leastExp-64: // less than half of the least float, as size is below 2^64
		return 0
	case e > mostExp:
		return infBits
	}
	last := max(e+bits.Len64(size)-1-fracBits, leastExp) // the power of 2 of the float's last bit
	kept := shorten(size, last-e)
	// The top bit of what is kept, if it has all 53, counts as 1 of the exponent; so does a carry out of them.
	return min(uint64(last-leastExp)<<fracBits+kept, infBits)
}

// shorten is the whole number that is nearest to n / 2^by, of two that are as near the even one; by is 64 at most.
func shorten(n uint64, by int) uint64 {
	if by <= 0 {
		return n << -by
	}
	kept := n >> by
	rest, half := n-kept<<by, uint64(1)<<(by-1)
	if rest > half || rest == half && kept%2 == 1 {
		kept++
	}
	return kept
}

// Ahead tells whether a float stands ahead of another one.
func Ahead(a, b float64) bool { return rank(a) < rank(b) }

// Same tells whether two floats are one.
func Same(a, b float64) bool { return rank(a) == rank(b) }

// rank is a number that rises with the order, and is one for all no-numbers.
func rank(f float64) uint64 {
	b := math.Float64bits(f)
	switch {
	case Class(f) == api.ClassNone:
		return math.MaxUint64
	case b >= signBit: // the greater the bits, the further below 0
		return ^b
	}
	return b | signBit
}

// Sort puts floats in their order.
func Sort(l []float64) []float64 {
	from, to := make([]float64, len(l)), make([]float64, len(l))
	copy(from, l)
	for width := 1; width < len(l); width *= 2 {
		mergePairs(from, to, width)
		from, to = to, from
	}
	return from
}

// mergePairs merges runs of that width, two by two, each of which is in order.
func mergePairs(from, to []float64, width int) {
pairs:
	for low := 0; low < len(from); low += 2 * width {
		mid, high := min(low+width, len(from)), min(low+2*width, len(from))
		a, b := from[low:mid], from[mid:high]
		for at := low; ; at++ {
			switch {
			case len(a) == 0:
				copy(to[at:high], b)
				continue pairs
			case len(b) == 0:
				copy(to[at:high], a)
				continue pairs
			case Ahead(b[0], a[0]):
				to[at], b = b[0], b[1:]
			default:
				to[at], a = a[0], a[1:]
			}
		}
	}
}

// Ends are the first one, the last one, and how many there are.
func Ends(l []float64) (float64, float64, int) {
	first, last, n := 0.0, 0.0, 0
	for _, f := range l {
		if Class(f) == api.ClassNone {
			continue
		}
		if n == 0 || Ahead(f, first) {
			first = f
		}
		if n == 0 || Ahead(last, f) {
			last = f
		}
		n++
	}
	return first, last, n
}
