package sign_test

import (
	"bytes"
	"crypto/ed25519"
	"crypto/sha512"
	"math/big"
	"slices"
	"testing"

	"synod/api"
	"synod/point"
	"synod/sign"
)

func power(n uint) *big.Int { return new(big.Int).Lsh(big.NewInt(1), n) }

func plus(n *big.Int, d int64) *big.Int { return new(big.Int).Add(n, big.NewInt(d)) }

func prime() *big.Int { return plus(power(255), -19) }

// order: L.
func order() *big.Int {
	l, _ := new(big.Int).SetString("27742317777372353535851937790883648493", 10)
	return l.Add(l, power(252))
}

// toBytes: 32 bytes of a number below 2^256, the lowest first, as it is.
func toBytes(n *big.Int) []byte {
	b := n.FillBytes(make([]byte, 32))
	slices.Reverse(b)
	return b
}

func small(n int64) []byte { return toBytes(big.NewInt(n)) }

func toBig(b []byte) *big.Int {
	b = bytes.Clone(b)
	slices.Reverse(b)
	return new(big.Int).SetBytes(b)
}

func withHighest(b []byte) []byte {
	b = bytes.Clone(b)
	b[31] |= 128
	return b
}

// flipped: b with one bit changed.
func flipped(b []byte, bit int) []byte {
	b = bytes.Clone(b)
	b[bit/8] ^= 1 << (bit % 8)
	return b
}

func check(t *testing.T, what string, got, want api.Errno) {
	t.Helper()
	if got != want {
		t.Errorf("%s: %d, not %d", what, got, want)
	}
}

// noPoints: bytes that are no point's: not canonical (of 0, 1 and others that would be points), without a root, x 0 with the highest bit.
func noPoints(t *testing.T) [][]byte {
	t.Helper()
	out := [][]byte{small(2), withHighest(small(2)), withHighest(small(1)), withHighest(toBytes(plus(prime(), -1))), bytes.Repeat([]byte{255}, 32)}
	for d := range int64(19) {
		b := toBytes(plus(prime(), d))
		out = append(out, b, withHighest(b))
	}
	for _, b := range out {
		if _, e := point.Decode(b); e != api.ErrPoint {
			t.Fatalf("%x is a point", b)
		}
	}
	return out
}

// P704: public keys and signatures of other lengths, whatever else is wrong with them.
func TestVerifyOtherLengths(t *testing.T) {
	seed, text := sample(1, 32), []byte("text")
	p, s := public(t, seed), signed(t, seed, text)
	badS := slices.Concat(small(2), toBytes(order()))
	publics := [][]byte{nil, {}, p[:31], append(bytes.Clone(p), 0), s, append(small(2), 0), small(2)[:31]}
	signatures := [][]byte{nil, {}, s[:63], append(bytes.Clone(s), 0), s[:32], badS[:63], append(bytes.Clone(badS), 0)}
	for _, n := range otherLengths() {
		publics = append(publics, make([]byte, n), sample(2, n))
		signatures = append(signatures, make([]byte, n), sample(2, n))
	}
	for _, bad := range publics {
		for _, signature := range append(signatures, s, badS) {
			check(t, "a public key of another length", sign.Verify(bad, text, signature), api.ErrArg)
		}
	}
	for _, bad := range signatures {
		for _, key := range append(noPoints(t), p, small(1)) {
			check(t, "a signature of another length", sign.Verify(key, text, bad), api.ErrArg)
		}
	}
}

// P704: public keys that are no point, whatever the signature of 64 bytes is.
func TestPublicIsNoPoint(t *testing.T) {
	seed, text := sample(1, 32), []byte("text")
	s := signed(t, seed, text)
	signatures := [][]byte{
		s, flipped(s, 0), flipped(s, 300), make([]byte, 64), bytes.Repeat([]byte{255}, 64),
		slices.Concat(small(2), s[32:]), slices.Concat(s[:32], toBytes(order())), slices.Concat(small(1), small(0)),
	}
	for _, bad := range noPoints(t) {
		for _, signature := range signatures {
			check(t, "a public key that is no point", sign.Verify(bad, text, signature), api.ErrPoint)
		}
	}
}

// P704: a first half that is no point, even where it would be one in another writing, for which the equation holds.
func TestStartIsNoPoint(t *testing.T) {
	seed, text := sample(1, 32), []byte("text")
	p, s := public(t, seed), signed(t, seed, text)
	for _, bad := range noPoints(t) {
		check(t, "R is no point", sign.Verify(p, text, slices.Concat(bad, s[32:])), api.ErrSign)
		check(t, "R is no point, and S is not canonical", sign.Verify(p, text, slices.Concat(bad, toBytes(order()))), api.ErrSign)
	}
	zero := small(1)
	check(t, "all zero", sign.Verify(zero, text, slices.Concat(zero, small(0))), api.OK)
	for _, bad := range [][]byte{withHighest(zero), toBytes(plus(prime(), 1)), withHighest(toBytes(plus(prime(), 1)))} {
		check(t, "zero in another writing", sign.Verify(zero, text, slices.Concat(bad, small(0))), api.ErrSign)
	}
}

// P704, P706: S and each multiple of the order together is refused, though S is taken.
func TestOtherWritingsOfS(t *testing.T) {
	for i := range int64(5) {
		seed, text := sample(i, 32), sample(i, int(i)*9)
		p, s := public(t, seed), signed(t, seed, text)
		check(t, "S", sign.Verify(p, text, s), api.OK)
		n := 0
		for other := new(big.Int).Add(toBig(s[32:]), order()); other.BitLen() <= 256; other.Add(other, order()) {
			check(t, "S and L", sign.Verify(p, text, slices.Concat(s[:32], toBytes(other))), api.ErrSign)
			n++
		}
		if n < 14 {
			t.Errorf("%d others", n)
		}
	}
}

// P704: other S that are not canonical; for the order itself the equation holds with the keys here.
func TestNotCanonicalS(t *testing.T) {
	seed, text, zero := sample(1, 32), []byte("text"), small(1)
	p, s := public(t, seed), signed(t, seed, text)
	top := plus(power(256), -1)
	for _, n := range []*big.Int{order(), plus(order(), 1), power(253), power(255), top} {
		check(t, "not canonical", sign.Verify(p, text, slices.Concat(s[:32], toBytes(n))), api.ErrSign)
	}
	for n := int64(1); n < 16; n++ {
		multiple := new(big.Int).Mul(order(), big.NewInt(n))
		check(t, "a multiple of the order", sign.Verify(zero, text, slices.Concat(zero, toBytes(multiple))), api.ErrSign)
	}
	for _, n := range []*big.Int{big.NewInt(0), big.NewInt(1), plus(order(), -1), order(), plus(order(), 1), top} {
		r, e := point.Base().Times(toBytes(n))
		if e != api.OK {
			t.Fatal(e)
		}
		want := api.OK
		if n.Cmp(order()) >= 0 {
			want = api.ErrSign
		}
		check(t, "S next to the order", sign.Verify(zero, text, slices.Concat(r.Encode(), toBytes(n))), want)
	}
}

// P704, P706: each bit of R and S.
func TestChangedSignature(t *testing.T) {
	seed, text := sample(7, 32), []byte("a text")
	p, s := public(t, seed), signed(t, seed, text)
	for bit := range 512 {
		if e := sign.Verify(p, text, flipped(s, bit)); e != api.ErrSign {
			t.Errorf("bit %d: %d", bit, e)
		}
	}
	for at := range 64 {
		other := bytes.Clone(s)
		other[at] += 77
		check(t, "a byte", sign.Verify(p, text, other), api.ErrSign)
	}
	check(t, "R and S swapped", sign.Verify(p, text, slices.Concat(s[32:], s[:32])), api.ErrSign)
	check(t, "zeros", sign.Verify(p, text, make([]byte, 64)), api.ErrSign)
	check(t, "the zero point and 0", sign.Verify(p, text, slices.Concat(small(1), small(0))), api.ErrSign)
}

// P706: other S that are canonical.
func TestOtherS(t *testing.T) {
	seed, text := sample(8, 32), []byte("a text")
	p, s := public(t, seed), signed(t, seed, text)
	n := toBig(s[32:])
	others := []*big.Int{plus(n, 1), plus(n, -1), plus(n, 8), new(big.Int).Sub(order(), n), big.NewInt(0), big.NewInt(1), plus(order(), -1)}
	for i := range int64(50) {
		other := toBig(sample(i, 32))
		others = append(others, other.Mod(other, order()))
	}
	for _, other := range others {
		other = new(big.Int).Mod(other, order())
		check(t, "another S", sign.Verify(p, text, slices.Concat(s[:32], toBytes(other))), api.ErrSign)
	}
}

// P704: each bit of a text; shorter and longer ones; bytes that move from one part of what is hashed to the next.
func TestChangedText(t *testing.T) {
	seed := sample(9, 32)
	p := public(t, seed)
	for _, n := range []int{1, 30, 127, 128} {
		text := sample(int64(n), n)
		s := signed(t, seed, text)
		for bit := 0; bit < 8*n; bit += 1 + n/30 {
			check(t, "a bit of the text", sign.Verify(p, flipped(text, bit), s), api.ErrSign)
		}
		for _, other := range [][]byte{nil, text[:n-1], append(bytes.Clone(text), 0), slices.Concat(text, text), text[1:]} {
			check(t, "another text", sign.Verify(p, other, s), api.ErrSign)
		}
	}
	long := sample(1, 5000)
	s := signed(t, seed, long)
	for _, bit := range []int{0, 8*127 + 7, 8 * 128, 8*4999 + 7} {
		check(t, "a bit of a long text", sign.Verify(p, flipped(long, bit), s), api.ErrSign)
	}
}

// P704: another key, and each bit of the key, of which some make it no point.
func TestOtherKey(t *testing.T) {
	seed, text := sample(10, 32), []byte("a text")
	p, s := public(t, seed), signed(t, seed, text)
	for i := range int64(9) {
		check(t, "another key", sign.Verify(public(t, sample(i, 32)), text, s), api.ErrSign)
	}
	points := 0
	for bit := range 256 {
		other, want := flipped(p, bit), api.ErrPoint
		if _, e := point.Decode(other); e == api.OK {
			want = api.ErrSign
			points++
		}
		check(t, "a bit of the key", sign.Verify(other, text, s), want)
	}
	if points < 64 || points > 192 {
		t.Errorf("%d points", points)
	}
	check(t, "Zero as the key", sign.Verify(small(1), text, s), api.ErrSign)
}

// smallOrder: the eight points that 8 times are Zero: of one of order 8 its multiples from 0 to 7.
func smallOrder(t *testing.T) []point.Point {
	t.Helper()
	for i := int64(0); ; i++ {
		p, e := point.Decode(sample(i, 32))
		if e != api.OK {
			continue
		}
		p = times(t, p, order())
		if times(t, p, big.NewInt(4)).Same(point.Zero()) {
			continue
		}
		var out []point.Point
		for n := range int64(8) {
			out = append(out, times(t, p, big.NewInt(n)))
		}
		return out
	}
}

func times(t *testing.T, p point.Point, n *big.Int) point.Point {
	t.Helper()
	q, e := p.Times(toBytes(n))
	if e != api.OK {
		t.Fatal(e)
	}
	return q
}

// challenge: k, by the library.
func challenge(r, p, text []byte) *big.Int {
	h := sha512.Sum512(slices.Concat(r, p, text))
	k := toBig(h[:])
	return k.Mod(k, order())
}

// mixed: a number times the base, and one of the points of small order.
type mixed struct {
	number *big.Int
	part   int
}

// everyMixed: each part alone, and with a number.
func everyMixed(seed int64) []mixed {
	var out []mixed
	for part := range 8 {
		out = append(out, mixed{big.NewInt(0), part}, mixed{toBig(sample(seed, 31)), part})
	}
	return out
}

func (m mixed) bytes(t *testing.T, parts []point.Point) []byte {
	t.Helper()
	return times(t, point.Base(), m.number).Plus(parts[m.part]).Encode()
}

// answer: S for a key, an R and their k, and what Verify says of it: R and k times the key hold a part beside S times the base.
func answer(key, r mixed, k *big.Int) (s []byte, want api.Errno) {
	sum := new(big.Int).Mul(k, key.number)
	sum.Add(sum, r.number)
	part := new(big.Int).Mul(k, big.NewInt(int64(key.part)))
	part.Add(part, big.NewInt(int64(r.part)))
	if part.Mod(part, big.NewInt(8)).Sign() != 0 {
		want = api.ErrSign
	}
	return toBytes(sum.Mod(sum, order())), want
}

// P704: keys and R that have parts of small order. With k as it is the equation holds for one text and not for another; times 8 it would always hold.
func TestSmallOrder(t *testing.T) {
	parts := smallOrder(t)
	count := make(map[api.Errno]int)
	for _, key := range everyMixed(1) {
		p := key.bytes(t, parts)
		for _, r := range everyMixed(2) {
			start := r.bytes(t, parts)
			for last := range byte(4) {
				text := []byte{last}
				s, want := answer(key, r, challenge(start, p, text))
				signature := slices.Concat(start, s)
				got := sign.Verify(p, text, signature)
				if got != want || ed25519.Verify(p, text, signature) != (want == api.OK) {
					t.Fatalf("parts %d and %d, text %v: %d, not %d", key.part, r.part, text, got, want)
				}
				count[got]++
			}
		}
	}
	if count[api.OK] < 40 || count[api.ErrSign] < 400 {
		t.Errorf("%v", count)
	}
}

// P704: points of small order alone: what is said with them hangs on the text.
func TestSmallOrderAlone(t *testing.T) {
	parts := smallOrder(t)
	for i, a := range parts {
		taken := 0
		for n := range 64 {
			text := sample(int64(n), n)
			e := sign.Verify(a.Encode(), text, slices.Concat(point.Zero().Encode(), small(0)))
			if e == api.OK {
				taken++
			} else {
				check(t, "small order", e, api.ErrSign)
			}
		}
		if taken == 0 || (taken == 64) != (i == 0) {
			t.Errorf("part %d: %d of 64 taken", i, taken)
		}
	}
	seed, text := sample(3, 32), []byte("text")
	p, s := public(t, seed), signed(t, seed, text)
	r, _ := point.Decode(s[:32])
	for i, a := range parts {
		want := api.ErrSign
		if i == 0 {
			want = api.OK
		}
		check(t, "R and a part", sign.Verify(p, text, slices.Concat(r.Plus(a).Encode(), s[32:])), want)
	}
}
