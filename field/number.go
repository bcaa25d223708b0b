package field

import "synod/api"

// Number: a number mod p. Its limbs are always those of the number below p, so that two Numbers are == just if they are the same mod p.
type Number struct {
	limbs limbs
}

// From: the number of 32 bytes.
func From(b []byte) (Number, api.Errno) {
	if len(b) != size {
		return Number{}, api.ErrArg
	}
	var l limbs
	for i, x := range b {
		l[i/8] |= uint64(x) << uint(i%8*8)
	}
	return Number{settle(l[0], l[1], l[2], l[3], 0)}, api.OK
}

// Small: n mod p.
func Small(n int) Number {
	if n < 0 {
		// The least int is its own opposite; as an unsigned one it is the right one.
		return Number{}.Minus(Number{limbs{uint64(-n)}})
	}
	return Number{limbs{uint64(n)}}
}

// Plus: the sum.
func (n Number) Plus(m Number) Number {
	return Number{sum(&n.limbs, &m.limbs)}
}

// Minus: the difference.
func (n Number) Minus(m Number) Number {
	return Number{difference(&n.limbs, &m.limbs)}
}

// Times: the product.
func (n Number) Times(m Number) Number {
	return Number{product(&n.limbs, &m.limbs)}
}

// Inverse: the number whose product with n is 1; 0 of 0.
func (n Number) Inverse() Number {
	// The power p - 2: 250 bits 1, then 01011.
	return n.ones250().then(2, n.Times).then(2, n.Times).then(1, n.Times)
}

// Bytes: canonical ones.
func (n Number) Bytes() []byte {
	out := make([]byte, size)
	for i := range out {
		out[i] = byte(n.limbs[i/8] >> uint(i%8*8))
	}
	return out
}

func (n Number) odd() bool { return n.limbs[0]&1 == 1 }

// then squares n so many times and hands it to a product: in the exponent, so many bits more, of which the factor sets the lowest ones.
func (n Number) then(squares int, times func(Number) Number) Number {
	for range squares {
		n = n.Times(n)
	}
	return times(n)
}

// ones250: the power 2^250 - 1, which is what the exponents p - 2 and (p - 5) / 8 begin with. A name tells how many bits 1 the exponent has.
func (n Number) ones250() Number {
	ones2 := n.then(1, n.Times)
	ones4 := ones2.then(2, ones2.Times)
	ones5 := ones4.then(1, n.Times)
	ones10 := ones5.then(5, ones5.Times)
	ones20 := ones10.then(10, ones10.Times)
	ones40 := ones20.then(20, ones20.Times)
	ones50 := ones40.then(10, ones10.Times)
	ones100 := ones50.then(50, ones50.Times)
	ones200 := ones100.then(100, ones100.Times)
	return ones200.then(50, ones50.Times)
}

// rootOfQuotient: the even root of u by v, if there is one.
func rootOfQuotient(u, v Number) (Number, bool) {
	v3 := v.Times(v).Times(v)
	base := u.Times(v3).Times(v3).Times(v)
	// The power (p - 5) / 8: 250 bits 1, then 01. With it x is a root of u by v or of its opposite, if either has one; where u or v is 0, x is 0.
	x := base.ones250().then(2, base.Times).Times(u).Times(v3)
	square := x.Times(x).Times(v)
	if square != u {
		if square != (Number{}).Minus(u) {
			return Number{}, false
		}
		x = x.Times(Number{rootOfMinusOne})
	}
	if x.odd() {
		x = Number{}.Minus(x)
	}
	return x, true
}
