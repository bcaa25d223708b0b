package point

import (
	"bytes"

	"synod/field"
)

// windowBits: so many bits of a number are one addition. It divides 8, so that they lie in one byte.
const windowBits = 4

// curveD: -121665 by 121666. It is written out, as the base is, because an inverse costs as much as some 30 sums of points.
func curveD() field.Number {
	return number(
		0xa3, 0x78, 0x59, 0x13, 0xca, 0x4d, 0xeb, 0x75, 0xab, 0xd8, 0x41, 0x41, 0x4d, 0x0a, 0x70, 0x00,
		0x98, 0xe8, 0x79, 0x77, 0x79, 0x40, 0xc7, 0x8c, 0x73, 0xfe, 0x6f, 0x2b, 0xee, 0x6c, 0x03, 0x52)
}

// baseX: the even one of the two that have baseY.
func baseX() field.Number {
	return number(
		0x1a, 0xd5, 0x25, 0x8f, 0x60, 0x2d, 0x56, 0xc9, 0xb2, 0xa7, 0x25, 0x95, 0x60, 0xc7, 0x2c, 0x69,
		0x5c, 0xdc, 0xd6, 0xfd, 0x31, 0xe2, 0xa4, 0xc0, 0xfe, 0x53, 0x6e, 0xcd, 0xd3, 0x36, 0x69, 0x21)
}

// baseY: 4 by 5.
func baseY() field.Number {
	return number(
		0x58, 0x66, 0x66, 0x66, 0x66, 0x66, 0x66, 0x66, 0x66, 0x66, 0x66, 0x66, 0x66, 0x66, 0x66, 0x66,
		0x66, 0x66, 0x66, 0x66, 0x66, 0x66, 0x66, 0x66, 0x66, 0x66, 0x66, 0x66, 0x66, 0x66, 0x66, 0x66)
}

// number: of 32 bytes, which are always one.
func number(b ...byte) field.Number {
	n, _ := field.From(b)
	return n
}

// at: the point at x and y, which are on the curve.
func at(x, y field.Number) Point {
	return Point{x, y, field.Small(1), x.Times(y)}
}

// whole: p, with a z that is not 0.
func (p Point) whole() Point {
	if p == (Point{}) {
		return at(field.Number{}, field.Small(1))
	}
	return p
}

// add: the sum. The chapter's divisors, 1 with and 1 less d x1 x2 y1 y2, are here both z1 z2 times as great. Neither is ever 0: no two points are an exception.
func (p Point) add(q Point) Point {
	xx, yy := p.x.Times(q.x), p.y.Times(q.y)
	zz, tt := p.z.Times(q.z), p.t.Times(q.t).Times(curveD())
	crossed := p.x.Plus(p.y).Times(q.x.Plus(q.y)).Minus(xx).Minus(yy)
	return quotients(crossed, zz.Plus(tt), yy.Plus(xx), zz.Minus(tt))
}

// twice: p and p together, for less than by add: the curve's equation tells the divisors without d, as y^2 - x^2 and 2 less that.
func (p Point) twice() Point {
	xx, yy, zz := p.x.Times(p.x), p.y.Times(p.y), p.z.Times(p.z)
	xy := p.x.Times(p.y)
	plus := yy.Minus(xx)
	return quotients(xy.Plus(xy), plus, yy.Plus(xx), zz.Plus(zz).Minus(plus))
}

// quotients: the point at a by b and c by d.
func quotients(a, b, c, d field.Number) Point {
	return Point{x: a.Times(d), y: c.Times(b), z: b.Times(d), t: a.Times(c)}
}

// window: 0 times p, once p, and so on.
func (p Point) window() [1 << windowBits]Point {
	var out [1 << windowBits]Point
	out[0] = Zero().whole()
	for i := 1; i < len(out); i++ {
		out[i] = out[i-1].add(p)
	}
	return out
}

// evenX: the even one of the two x that points with that y have, if there are such points.
func evenX(y field.Number) (field.Number, bool) {
	one, yy := field.Small(1), y.Times(y)
	root, ok, _ := field.Root(yy.Minus(one).Bytes(), curveD().Times(yy).Plus(one).Bytes())
	if !ok {
		return field.Number{}, false
	}
	return number(root...), true
}

// bytesOf: those of the point at x and y.
func bytesOf(x, y field.Number) []byte {
	out := y.Bytes()
	if x.Bytes()[0]&1 == 1 {
		out[size-1] |= highestBit
	}
	return out
}

// equal: whether both are the same mod p, which their bytes tell, however a Number is held.
func equal(a, b field.Number) bool { return bytes.Equal(a.Bytes(), b.Bytes()) }
