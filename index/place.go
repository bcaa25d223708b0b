package index

import (
	"math"
	"math/bits"

	"synod/api"
)

// Place, At: as a complex number, and back.
func Place(x int) complex128 {
	if x < 0 || x >= places {
		return none
	}
	level := Level(x)
	return complex(float64(level), float64(x>>(level+1)))
}

func At(p complex128) int {
	if !wholeBelow(real(p), bits.Len(api.MaxLeaves)) {
		return none
	}
	level := int(real(p))
	if !wholeBelow(imag(p), api.MaxLeaves>>level) {
		return none
	}
	return int(imag(p))<<(level+1) + 1<<level - 1
}

// wholeBelow: whether n is one of 0, 1, .. below end; what is not a number is not.
func wholeBelow(n float64, end int) bool {
	return n >= 0 && n < float64(end) && n == math.Floor(n)
}

// above: the parent of p in a tree without end.
func above(p complex128) complex128 {
	return complex(real(p)+1, math.Floor(imag(p)/2))
}

// beside: the other part below the parent of p.
func beside(p complex128) complex128 {
	if math.Mod(imag(p), 2) == 0 {
		return p + 1i
	}
	return p - 1i
}

// leftOf: the left one of the two parts below p.
func leftOf(p complex128) complex128 {
	return complex(real(p)-1, 2*imag(p))
}
