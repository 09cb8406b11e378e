// Package nano is layer 2: volumes: see shared/doc/02-nano.md.
package nano

import (
	"math"

	"deckhand/api"
	"deckhand/real"
)

// perMicro is how many nanolitres a microlitre has.
const perMicro = 1000

// exact is the greatest size up to which all whole numbers are floats.
const exact = 1 << 53

// Of is the volume of so many microlitres.
func Of(f float64) (int, api.Errno) {
	switch real.Class(f) {
	case api.ClassNone:
		return 0, api.ErrNaN
	case api.ClassInf:
		return 0, api.ErrInf
	case api.ClassNull:
		return 0, api.OK
	}
	if real.Minus(f) {
		return 0, api.ErrBelow
	}
	m, e := real.Parts(f)
	n := nearest(m*perMicro, e) // below 2^53 * 1000, which is below 2^63
	if n > api.MaxNano {
		return 0, api.ErrOver
	}
	return n, api.OK
}

// nearest is the whole number next to p * 2^e, of two that are as near the even one, for a p above 0; MaxNano + 1 may stand for all that are above MaxNano.
func nearest(p, e int) int {
	switch {
	case e < -63: // less than a half, as p is below 2^63
		return 0
	case e < 0:
		return shorten(uint64(p), -e)
	case p > api.MaxNano>>e:
		return api.MaxNano + 1
	}
	return p << e
}

// shorten is the whole number next to p / 2^by, of two that are as near the even one.
func shorten(p uint64, by int) int {
	kept := p >> by
	rest, half := p-kept<<by, uint64(1)<<(by-1)
	if rest > half || rest == half && kept%2 == 1 {
		kept++
	}
	return int(kept)
}

// Micro is a volume in microlitres.
func Micro(n int) float64 {
	if n < -exact || n > exact {
		return math.NaN()
	}
	// Both are floats as they stand, so that the quotient is rounded once only.
	return float64(n) / perMicro
}

// Sum is volumes together.
func Sum(l []float64) (int, api.Errno) {
	sum, err := 0, api.OK
adding:
	for _, f := range l {
		n, e := Of(f)
		switch {
		case e != api.OK:
			sum, err = 0, e
			break adding
		case sum+n > api.MaxNano:
			sum, err = 0, api.ErrOver
			break adding
		}
		sum += n
	}
	return sum, err
}
