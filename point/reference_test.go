package point_test

import (
	"bytes"
	"math/big"
	"math/rand"
	"slices"
)

// place: a point of the curve by the chapter's words alone, in the library's numbers, to hold ours against.
type place struct {
	x, y *big.Int
}

func power(n uint) *big.Int { return new(big.Int).Lsh(big.NewInt(1), n) }

func plus(n *big.Int, d int64) *big.Int { return new(big.Int).Add(n, big.NewInt(d)) }

func prime() *big.Int { return plus(power(255), -19) }

func rest(n *big.Int) *big.Int { return n.Mod(n, prime()) }

func product(factors ...*big.Int) *big.Int {
	out := big.NewInt(1)
	for _, f := range factors {
		rest(out.Mul(out, f))
	}
	return out
}

func quotient(a, b *big.Int) *big.Int {
	return product(a, new(big.Int).ModInverse(rest(new(big.Int).Set(b)), prime()))
}

// constant: d, -121665 by 121666.
var constant = quotient(big.NewInt(-121665), big.NewInt(121666))

// order: L.
func order() *big.Int {
	l, _ := new(big.Int).SetString("27742317777372353535851937790883648493", 10)
	return l.Add(l, power(252))
}

func zeroPlace() place { return place{big.NewInt(0), big.NewInt(1)} }

func basePlace() place {
	y := quotient(big.NewInt(4), big.NewInt(5))
	x, _ := evenOf(y)
	return place{x, y}
}

func (p place) plus(q place) place {
	dxy := product(constant, p.x, q.x, p.y, q.y)
	one := big.NewInt(1)
	across := new(big.Int).Add(product(p.x, q.y), product(q.x, p.y))
	along := new(big.Int).Add(product(p.y, q.y), product(p.x, q.x))
	return place{quotient(across, new(big.Int).Add(one, dxy)), quotient(along, new(big.Int).Sub(one, dxy))}
}

func (p place) times(n *big.Int) place {
	out := zeroPlace()
	for i := n.BitLen() - 1; i >= 0; i-- {
		out = out.plus(out)
		if n.Bit(i) == 1 {
			out = out.plus(p)
		}
	}
	return out
}

func (p place) bytes() []byte {
	b := toBytes(p.y)
	if p.x.Bit(0) == 1 {
		b[31] |= 128
	}
	return b
}

// evenOf: the even x of a y, from y^2 - 1 = x^2 (1 + d y^2).
func evenOf(y *big.Int) (*big.Int, bool) {
	yy := product(y, y)
	x := new(big.Int).ModSqrt(quotient(plus(yy, -1), plus(product(constant, yy), 1)), prime())
	if x == nil {
		return nil, false
	}
	if x.Bit(0) == 1 {
		x.Sub(prime(), x)
	}
	return x, true
}

// placeOf: what 32 bytes are the bytes of.
func placeOf(b []byte) (place, bool) {
	low := bytes.Clone(b)
	low[31] &= 127
	y := toBig(low)
	if y.Cmp(prime()) >= 0 {
		return place{}, false
	}
	x, ok := evenOf(y)
	if !ok || x.Sign() == 0 && b[31] > 127 {
		return place{}, false
	}
	if b[31] > 127 {
		x.Sub(prime(), x)
	}
	return place{x, y}, true
}

// toBytes: 32 bytes of a number below 2^256, the lowest first, as it is.
func toBytes(n *big.Int) []byte {
	b := n.FillBytes(make([]byte, 32))
	slices.Reverse(b)
	return b
}

func small(n int64) []byte { return toBytes(big.NewInt(n)) }

func toBig(b []byte) *big.Int {
	b = bytes.Clone(b)
	slices.Reverse(b)
	return new(big.Int).SetBytes(b)
}

func sample(seed int64, n int) []byte {
	b := make([]byte, n)
	rand.New(rand.NewSource(seed)).Read(b)
	return b
}

// withHighest: b with its highest bit set.
func withHighest(b []byte) []byte {
	b = bytes.Clone(b)
	b[31] |= 128
	return b
}

// smallOrder: the bytes of the eight points that 8 times are Zero: of one of order 8, its multiples from 0 to 7.
func smallOrder() [][]byte {
	for i := int64(0); ; i++ {
		p, ok := placeOf(sample(i, 32))
		if !ok {
			continue
		}
		p = p.times(order())
		if bytes.Equal(p.times(big.NewInt(4)).bytes(), zeroPlace().bytes()) {
			continue
		}
		var out [][]byte
		for n := range int64(8) {
			out = append(out, p.times(big.NewInt(n)).bytes())
		}
		return out
	}
}

// chancePoints: the bytes of so many points of the whole curve, of all orders as chance has it.
func chancePoints(n int) [][]byte {
	var out [][]byte
	for i := int64(0); len(out) < n; i++ {
		b := sample(500+i, 32)
		if _, ok := placeOf(b); ok {
			out = append(out, b)
		}
	}
	return out
}

// numbers: the edges that the chapter has, and chance ones.
func numbers() []*big.Int {
	var out []*big.Int
	for n := range int64(20) {
		out = append(out, big.NewInt(n))
	}
	twice := new(big.Int).Lsh(order(), 1)
	eight := new(big.Int).Lsh(order(), 3)
	for _, n := range []*big.Int{order(), twice, eight, power(252), power(253), power(254), power(255), prime()} {
		out = append(out, plus(n, -1), n, plus(n, 1))
	}
	out = append(out, power(128), plus(power(256), -1), plus(power(256), -2), plus(power(256), -16))
	for i := range int64(10) {
		out = append(out, toBig(sample(900+i, 32)))
	}
	return out
}
