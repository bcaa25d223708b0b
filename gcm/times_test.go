package gcm_test

import (
	"bytes"
	"math/big"
	"slices"
	"testing"

	"synod/api"
	"synod/gcm"
)

// power: x to the n, n below 128, as a block.
func power(n int) []byte {
	b := make([]byte, 16)
	b[n/8] = 128 >> (n % 8)
	return b
}

func sum(a, b []byte) []byte {
	out := bytes.Clone(a)
	for i, x := range b {
		out[i] ^= x
	}
	return out
}

// polynomial: a block as a number whose bit n is the one of x to the n.
func polynomial(b []byte) *big.Int {
	p := new(big.Int)
	for n := range 128 {
		p.SetBit(p, n, uint(b[n/8]>>(7-n%8)&1))
	}
	return p
}

// product: by long multiplication and long division of polynomials.
func product(a, b []byte) []byte {
	modulus := polynomial(sum(sum(power(0), power(1)), sum(power(2), power(7))))
	modulus.SetBit(modulus, 128, 1)
	p, q, all := polynomial(a), polynomial(b), new(big.Int)
	for n := range 128 {
		if q.Bit(n) == 1 {
			all.Xor(all, new(big.Int).Lsh(p, uint(n)))
		}
	}
	for n := 255; n >= 128; n-- {
		if all.Bit(n) == 1 {
			all.Xor(all, new(big.Int).Lsh(modulus, uint(n-128)))
		}
	}
	out := make([]byte, 16)
	for n := range 128 {
		out[n/8] |= byte(all.Bit(n)) << (7 - n%8)
	}
	return out
}

// edges: blocks: zeros, all 255, each power of x, each byte 255 alone, and chance ones.
func edges() [][]byte {
	out := [][]byte{make([]byte, 16), bytes.Repeat([]byte{255}, 16)}
	for n := range 128 {
		out = append(out, power(n))
	}
	for i := range 16 {
		b := make([]byte, 16)
		b[i] = 255
		out = append(out, b)
	}
	for i := range int64(14) {
		out = append(out, sample(i, 16))
	}
	return out
}

// P902: products that are known: GCM's test case 2, of what is hidden there by the block of zeros, and x to the 128.
func TestKnownProducts(t *testing.T) {
	h := fromHex(t, "66e94bd4ef8a2c3b884cfa59ca342b2e")
	if got := times(t, fromHex(t, "0388dace60b6a392f328c2b971b2fe78"), h); !bytes.Equal(got, fromHex(t, "5e2ec746917062882c85b0685353deb7")) {
		t.Errorf("%x", got)
	}
	if got := times(t, power(127), power(1)); !bytes.Equal(got, append([]byte{0xe1}, make([]byte, 15)...)) {
		t.Errorf("x to the 128: %x", got)
	}
}

// P902: zeros make zeros, and the one changes nothing.
func TestTimesZeroAndOne(t *testing.T) {
	zero, one := make([]byte, 16), make([]byte, 16)
	one[0] = 128
	for _, b := range edges() {
		if !bytes.Equal(times(t, zero, b), zero) || !bytes.Equal(times(t, b, zero), zero) {
			t.Errorf("zeros times %x", b)
		}
		if !bytes.Equal(times(t, one, b), b) || !bytes.Equal(times(t, b, one), b) {
			t.Errorf("the one times %x", b)
		}
	}
}

// P902: powers below the 128th are not reduced: the bits stand where both places together say.
func TestTimesOfSingleBits(t *testing.T) {
	for n := range 128 {
		for m := range 128 - n {
			if got := times(t, power(n), power(m)); !bytes.Equal(got, power(n+m)) {
				t.Fatalf("%d and %d: %x", n, m, got)
			}
		}
	}
}

// P902: all edges with all edges, against the other way to reckon it.
func TestTimesOfEdges(t *testing.T) {
	for _, a := range edges() {
		for _, b := range edges() {
			if got, want := times(t, a, b), product(a, b); !bytes.Equal(got, want) {
				t.Fatalf("%x times %x: %x, not %x", a, b, got, want)
			}
		}
	}
}

// P902: chance ones, against the other way, and by the rules of products.
func TestTimesOfMany(t *testing.T) {
	for i := range int64(1000) {
		a, b, c := sample(3*i, 16), sample(3*i+1, 16), sample(3*i+2, 16)
		ab := times(t, a, b)
		if !bytes.Equal(ab, product(a, b)) || !bytes.Equal(ab, times(t, b, a)) {
			t.Fatalf("%x times %x: %x", a, b, ab)
		}
		if !bytes.Equal(times(t, ab, c), times(t, a, times(t, b, c))) {
			t.Fatalf("%x times %x times %x", a, b, c)
		}
		if !bytes.Equal(times(t, a, sum(b, c)), sum(ab, times(t, a, c))) {
			t.Fatalf("%x times the sum of %x and %x", a, b, c)
		}
	}
}

// P902: each block but zeros has a partner whose product with it is the one: 2^128 - 2 times itself.
func TestTimesHasPartners(t *testing.T) {
	for _, b := range edges()[1:] {
		partner, square := power(0), b
		for range 127 {
			square = times(t, square, square)
			partner = times(t, partner, square)
		}
		if !bytes.Equal(times(t, partner, b), power(0)) {
			t.Errorf("of %x: %x", b, partner)
		}
	}
}

// others: lists that have not n bytes: none, those next to it, half of it, its double, its length as a low byte of others.
func others(n int) [][]byte {
	out := [][]byte{nil, {}, sample(1, n)[:n-1], sample(1, n)[:0]}
	for _, m := range []int{1, 4, 8, 11, 12, 13, 15, 16, 17, 24, 31, 32, 33, 256 + n, api.MaxBytes, api.MaxBytes + n} {
		if m != n {
			out = append(out, make([]byte, m), sample(2, m))
		}
	}
	return out
}

// P902: one or both of other lengths; nothing beside the error.
func TestTimesOfOtherLengths(t *testing.T) {
	good := sample(3, 16)
	check := func(a, b []byte) {
		t.Helper()
		if x, e := gcm.Times(a, b); e != api.ErrArg || len(x) != 0 {
			t.Errorf("%d and %d bytes: %x, error %d", len(a), len(b), x, e)
		}
	}
	for _, bad := range others(16) {
		check(bad, good)
		check(good, bad)
		for _, worse := range others(16) {
			check(bad, worse)
		}
	}
}

// slowHash: block by block, of a copy with zeros behind it, with the other way's products.
func slowHash(h, b []byte) []byte {
	padded := append(bytes.Clone(b), make([]byte, (16-len(b)%16)%16)...)
	out := make([]byte, 16)
	for piece := range slices.Chunk(padded, 16) {
		out = product(sum(out, piece), h)
	}
	return out
}

// P902: a hash that is known: GCM's test case 2.
func TestKnownHash(t *testing.T) {
	h := fromHex(t, "66e94bd4ef8a2c3b884cfa59ca342b2e")
	got := hash(t, h, fromHex(t, "0388dace60b6a392f328c2b971b2fe7800000000000000000000000000000080"))
	if !bytes.Equal(got, fromHex(t, "f38cbb1ad69223dcc3457ae5b6b0f885")) {
		t.Errorf("%x", got)
	}
}

// P902: of all lengths, none among them, against the words.
func TestHash(t *testing.T) {
	for _, h := range [][]byte{sample(1, 16), make([]byte, 16), power(0), power(127), bytes.Repeat([]byte{255}, 16)} {
		for n := range 100 {
			for _, b := range [][]byte{sample(2, n), make([]byte, n), bytes.Repeat([]byte{255}, n)} {
				if got, want := hash(t, h, b), slowHash(h, b); !bytes.Equal(got, want) {
					t.Fatalf("of %d bytes by %x: %x, not %x", n, h, got, want)
				}
			}
		}
	}
	if got := hash(t, sample(1, 16), nil); !bytes.Equal(got, make([]byte, 16)) {
		t.Errorf("of nothing: %x", got)
	}
}

// P902: no bytes are cut off, and Hash has no most bytes: ErrArg is its only error.
func TestHashOfManyBytes(t *testing.T) {
	h := sample(1, 16)
	for _, n := range []int{api.MaxBytes - 1, api.MaxBytes, api.MaxBytes + 1, 2*api.MaxBytes + 32} {
		b := sample(2, n)
		if got, want := hash(t, h, b), slowHash(h, b); !bytes.Equal(got, want) {
			t.Errorf("of %d bytes: %x, not %x", n, got, want)
		}
	}
}

// P902: zeros behind the bytes up to a whole block have no weight; one more has.
func TestHashFillsUpWithZeros(t *testing.T) {
	h := sample(1, 16)
	for n := 1; n <= 16; n++ {
		b := sample(int64(n), n)
		want := hash(t, h, b)
		whole := append(bytes.Clone(b), make([]byte, 17-n)...)
		for m := n; m <= 16; m++ {
			if !bytes.Equal(hash(t, h, whole[:m]), want) {
				t.Errorf("%d bytes, and zeros up to %d", n, m)
			}
		}
		if bytes.Equal(hash(t, h, whole), want) {
			t.Errorf("%d bytes, and zeros up to 17", n)
		}
	}
}

// P902: h of other lengths; nothing beside the error.
func TestHashByOtherLengths(t *testing.T) {
	for _, h := range others(16) {
		for _, n := range []int{0, 1, 15, 16, 17, 100} {
			if x, e := gcm.Hash(h, sample(3, n)); e != api.ErrArg || len(x) != 0 {
				t.Errorf("of %d bytes by %d: %x, error %d", n, len(h), x, e)
			}
		}
	}
}
