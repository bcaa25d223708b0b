package scalar

import "math/bits"

// wide: a number below 2^512, the lowest 64 bits first, and one word above it, so that a division's first step has as many words as each other one.
type wide [9]uint64

// order: L. Between its two lowest words and its one bit above them there is nothing, which is why a quotient is guessed so well.
var order = [4]uint64{0x5812631a5cf5d3ed, 0x14def9dea2f79cd6, 0, 1 << 60}

// load: the number of at most 64 bytes.
func load(b []byte) wide {
	var w wide
	for i, x := range b {
		w[i/8] |= uint64(x) << uint(i%8*8)
	}
	return w
}

// addProduct: a b more, for numbers a, b and w below 2^256.
func (w *wide) addProduct(a, b *wide) {
	for i, x := range a[:4] {
		var carry uint64
		for j, y := range b[:4] {
			high, low := bits.Mul64(x, y)
			low, over := bits.Add64(low, w[i+j], 0)
			high += over
			w[i+j], over = bits.Add64(low, carry, 0)
			carry = high + over
		}
		w[i+4] = carry
	}
}

// rest: the bytes of the number mod L, by long division; w is used up. Each step takes one word of the quotient, times L, away from five words and leaves less than L in them.
func (w *wide) rest() []byte {
steps:
	for at := 4; at >= 0; at-- {
		w.takeAway(at, w.guess(at))
		// What is left is below 2 L: four words of it.
		for i := 3; i >= 0; i-- {
			if w[at+i] < order[i] {
				continue steps
			}
			if w[at+i] > order[i] {
				break
			}
		}
		w.takeAway(at, 1)
	}
	return w.bytes()
}

// guess: the quotient of the five words from at on by L, or one less, but not below 0. By 2^252 in place of L it is the same or one more, since the five words are below 2^64 L.
func (w *wide) guess(at int) uint64 {
	top, low := w[at+4], w[at+3]>>60
	if top == 0 && low == 0 {
		return 0
	}
	// Where the quotient by 2^252 is 2^64 it wraps round, and back.
	return (top<<4 | low) - 1
}

// takeAway: q L, from the five words from at on.
func (w *wide) takeAway(at int, q uint64) {
	var carry, borrow uint64
	for i, x := range order {
		high, low := bits.Mul64(q, x)
		low, over := bits.Add64(low, carry, 0)
		carry = high + over
		w[at+i], borrow = bits.Sub64(w[at+i], low, borrow)
	}
	w[at+4] -= carry + borrow
}

// bytes: those of the four lowest words.
func (w *wide) bytes() []byte {
	out := make([]byte, size)
	for i := range out {
		out[i] = byte(w[i/8] >> uint(i%8*8))
	}
	return out
}
