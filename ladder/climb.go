package ladder

import (
	"iter"

	"synod/field"
)

const (
	topBit   = 254
	constant = 121665 // (486662 - 2) / 4, of the curve
)

// ratio: a point's u as x by z, so that only the last one costs an inverse; z is 0 of the point that has no u.
type ratio struct {
	x, z field.Number
}

func (r ratio) sum() field.Number        { return r.x.Plus(r.z) }
func (r ratio) difference() field.Number { return r.x.Minus(r.z) }

// value: 0 where z is 0, as its inverse is.
func (r ratio) value() field.Number { return r.x.Times(r.z.Inverse()) }

// pair: two multiples of a point that are one point apart.
type pair struct {
	low, high ratio
}

func (p *pair) swap() { p.low, p.high = p.high, p.low }

// step: low twice, and low and high together, which are again one point apart. Their difference's u is asked for, as ratios do not tell the sum of two points without it.
func (p *pair) step(apart field.Number) {
	a, b := p.low.sum(), p.low.difference()
	c, d := p.high.sum(), p.high.difference()
	da, cb := d.Times(a), c.Times(b)
	plus, minus := da.Plus(cb), da.Minus(cb)
	aa, bb := a.Times(a), b.Times(b)
	e := aa.Minus(bb)
	p.high = ratio{plus.Times(plus), apart.Times(minus.Times(minus))}
	p.low = ratio{aa.Times(bb), e.Times(aa.Plus(field.Small(constant).Times(e)))}
}

// climb: a pair on its way up the ladder of the point with that u.
type climb struct {
	pair
	u field.Number
}

// begin: 0 times and once the point.
func begin(u field.Number) *climb {
	one := field.Small(1)
	return &climb{pair: pair{low: ratio{x: one}, high: ratio{u, one}}, u: u}
}

// rung: from n and n + 1 times the point to 2 n and the next, or, with a bit, to the two above 2 n.
func (c *climb) rung(bit bool) {
	if bit {
		c.swap()
	}
	c.step(c.u)
	if bit {
		c.swap()
	}
}

// product: the u of n times a point with that u.
func product(n []byte, u field.Number) field.Number {
	c := begin(u)
	for bit := range bitsDown(n) {
		c.rung(bit)
	}
	return c.low.value()
}

// bitsDown: the bits of 32 bytes, without the highest one, down to the lowest.
func bitsDown(n []byte) iter.Seq[bool] {
	return func(yield func(bool) bool) {
		for i := topBit; i >= 0; i-- {
			if !yield(n[i/8]>>uint(i%8)&1 == 1) {
				return
			}
		}
	}
}
