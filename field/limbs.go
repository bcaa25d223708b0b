package field

import "math/bits"

// limbs: a number below 2^256, the lowest 64 bits first. All curves stand on its sums: they go word by word without loops, and hand words on instead of arrays, because that is about twice as fast.
type limbs [4]uint64

var rootOfMinusOne = limbs{0xc4ee1b274a0ea0b0, 0x2f431806ad2fe478, 0x2b4d00993dfbd7a7, 0x2b8324804fc1df0b}

// low255: of the highest limb, what is below 2^255.
const low255 = 1<<63 - 1

// sum: a + b mod p, for an a and a b below p.
func sum(a, b *limbs) limbs {
	s0, carry := bits.Add64(a[0], b[0], 0)
	s1, carry := bits.Add64(a[1], b[1], carry)
	s2, carry := bits.Add64(a[2], b[2], carry)
	s3, carry := bits.Add64(a[3], b[3], carry)
	return settle(s0, s1, s2, s3, carry)
}

// difference: a - b mod p, for an a and a b below p.
func difference(a, b *limbs) limbs {
	d0, borrow := bits.Sub64(a[0], b[0], 0)
	d1, borrow := bits.Sub64(a[1], b[1], borrow)
	d2, borrow := bits.Sub64(a[2], b[2], borrow)
	d3, borrow := bits.Sub64(a[3], b[3], borrow)
	// Where it is below 0 the words are 2^256 more than it: p more than it they are less 19 and without the bit 2^255.
	d0, under := bits.Sub64(d0, 19*borrow, 0)
	d1, under = bits.Sub64(d1, 0, under)
	d2, under = bits.Sub64(d2, 0, under)
	d3, _ = bits.Sub64(d3, 0, under)
	return limbs{d0, d1, d2, d3 & low255}
}

// product: a b mod p.
func product(a, b *limbs) limbs {
	w0, h0, h1, h2, h3 := addRow(0, 0, 0, 0, a[0], b)
	w1, h0, h1, h2, h3 := addRow(h0, h1, h2, h3, a[1], b)
	w2, h0, h1, h2, h3 := addRow(h0, h1, h2, h3, a[2], b)
	w3, h0, h1, h2, h3 := addRow(h0, h1, h2, h3, a[3], b)
	// 2^256 is 38 mod p: the four words above it, 38 times, and the four below it.
	w0, carry := addProduct(w0, h0, 38, 0)
	w1, carry = addProduct(w1, h1, 38, carry)
	w2, carry = addProduct(w2, h2, 38, carry)
	w3, carry = addProduct(w3, h3, 38, carry)
	return settle(w0, w1, w2, w3, carry)
}

// addRow: x b and the words t, the lowest word first.
func addRow(t0, t1, t2, t3, x uint64, b *limbs) (r0, r1, r2, r3, r4 uint64) {
	r0, carry := addProduct(t0, x, b[0], 0)
	r1, carry = addProduct(t1, x, b[1], carry)
	r2, carry = addProduct(t2, x, b[2], carry)
	r3, r4 = addProduct(t3, x, b[3], carry)
	return r0, r1, r2, r3, r4
}

// addProduct: t + x y + carry, which always fits into two words.
func addProduct(t, x, y, carry uint64) (low, high uint64) {
	high, low = bits.Mul64(x, y)
	low, c := bits.Add64(low, t, 0)
	high += c
	low, c = bits.Add64(low, carry, 0)
	return low, high + c
}

// settle: the number below p that five words are mod p, for a top of at most 38. (2^255 is 19 mod p; so many 19s and what is below 2^255 are less than 2 p.)
func settle(w0, w1, w2, w3, top uint64) limbs {
	over := top<<1 | w3>>63
	w0, w1, w2, w3 = addSmall(w0, w1, w2, w3&low255, over*19)
	// Whether it is p or more shows in the bit 2^255 of what is 19 more, and that without the bit is p less.
	m0, m1, m2, m3 := addSmall(w0, w1, w2, w3, 19)
	if m3 > low255 {
		return limbs{m0, m1, m2, m3 & low255}
	}
	return limbs{w0, w1, w2, w3}
}

// addSmall: x more, where that is below 2^256.
func addSmall(w0, w1, w2, w3, x uint64) (s0, s1, s2, s3 uint64) {
	s0, carry := bits.Add64(w0, x, 0)
	s1, carry = bits.Add64(w1, 0, carry)
	s2, carry = bits.Add64(w2, 0, carry)
	return s0, s1, s2, w3 + carry
}
