package hpke_test

import (
	"bytes"
	"encoding/hex"
	"math/rand"
	"testing"

	"synod/api"
	"synod/hpke"
)

func sample(seed int64, n int) []byte {
	b := make([]byte, n)
	rand.New(rand.NewSource(seed)).Read(b)
	return b
}

func fromHex(t *testing.T, s string) []byte {
	t.Helper()
	b, err := hex.DecodeString(s)
	if err != nil {
		t.Fatal(err)
	}
	return b
}

// others: lists that have not n bytes.
func others(n int) [][]byte {
	out := [][]byte{nil, {}, make([]byte, api.MaxBytes+n)}
	for _, m := range []int{1, n - 1, n + 1, 2 * n, 256 + n} {
		out = append(out, make([]byte, m), sample(int64(m), m))
	}
	return out
}

// flipped: b with one bit changed.
func flipped(b []byte, bit int) []byte {
	b = bytes.Clone(b)
	b[bit/8] ^= 1 << (bit % 8)
	return b
}

// smallOrder: all bytes by which everybody shares zeros: the points of small order, those of them that have bytes which are not canonical, and each with the highest bit.
func smallOrder(t *testing.T) [][]byte {
	t.Helper()
	var out [][]byte
	for _, s := range []string{
		"0000000000000000000000000000000000000000000000000000000000000000",
		"0100000000000000000000000000000000000000000000000000000000000000",
		"e0eb7a7c3b41b8ae1656e3faf19fc46ada098deb9c32b1fd866205165f49b800",
		"5f9c95bca3508c24b1d0b1559c83ef5b04445cc4581c8e86d8224eddd09f1157",
		"ecffffffffffffffffffffffffffffffffffffffffffffffffffffffffffff7f",
		"edffffffffffffffffffffffffffffffffffffffffffffffffffffffffffff7f",
		"eeffffffffffffffffffffffffffffffffffffffffffffffffffffffffffff7f",
	} {
		b := fromHex(t, s)
		out = append(out, b, flipped(b, 255))
	}
	return out
}

// ikms: of no bytes, of few, of many, and at the edges of a hash's blocks, with what stands ahead of them too.
func ikms() [][]byte {
	out := [][]byte{nil, {}, {0}, {255}, make([]byte, 32), bytes.Repeat([]byte{255}, 32)}
	for _, n := range []int{1, 2, 16, 31, 32, 33, 36, 37, 44, 45, 46, 55, 56, 63, 64, 65, 100, 1000, api.MaxBytes, api.MaxBytes + 1, 3 * api.MaxBytes} {
		out = append(out, sample(int64(n), n))
	}
	return out
}

// derived: a key, with all of its bytes.
func derived(t *testing.T, ikm []byte) (secret, public []byte) {
	t.Helper()
	secret, public = hpke.Derive(ikm)
	if len(secret) != 32 || len(public) != 32 {
		t.Fatalf("Derive of %d bytes: %x, %x", len(ikm), secret, public)
	}
	return secret, public
}

// encap: where it can't be refused.
func encap(t *testing.T, public, ikm []byte) (shared, enc []byte) {
	t.Helper()
	shared, enc, e := hpke.Encap(public, ikm)
	if e != api.OK || len(shared) != 32 || len(enc) != 32 {
		t.Fatalf("Encap of %x: %x, %x, error %d", public, shared, enc, e)
	}
	return shared, enc
}

// decap: where it can't be refused.
func decap(t *testing.T, secret, enc []byte) []byte {
	t.Helper()
	shared, e := hpke.Decap(secret, enc)
	if e != api.OK || len(shared) != 32 {
		t.Fatalf("Decap of %x: %x, error %d", enc, shared, e)
	}
	return shared
}

// context: where it can't be refused.
func context(t *testing.T, shared, info []byte) *hpke.Context {
	t.Helper()
	c, e := hpke.New(shared, info)
	if e != api.OK || c == nil {
		t.Fatalf("New of %x and %d bytes: error %d", shared, len(info), e)
	}
	return c
}

// seal: where it can't be refused.
func seal(t *testing.T, c *hpke.Context, more, text []byte) []byte {
	t.Helper()
	b, e := c.Seal(more, text)
	if e != api.OK || len(b) != len(text)+16 {
		t.Fatalf("Seal of %d bytes and %d more: %d bytes, error %d", len(text), len(more), len(b), e)
	}
	return b
}

// checkOpen: c opens b as that text.
func checkOpen(t *testing.T, c *hpke.Context, more, b, text []byte) {
	t.Helper()
	got, e := c.Open(more, b)
	if e != api.OK || !bytes.Equal(got, text) {
		t.Fatalf("Open of %d bytes and %d more: %x, not %x, error %d", len(b), len(more), got, text, e)
	}
}

// checkShut: c tells nothing of b but that error.
func checkShut(t *testing.T, c *hpke.Context, more, b []byte, want api.Errno) {
	t.Helper()
	if got, e := c.Open(more, b); e != want || len(got) != 0 {
		t.Fatalf("Open of %d bytes and %d more: %x, error %d, not %d", len(b), len(more), got, e, want)
	}
}

// exported: where it can't be refused.
func exported(t *testing.T, c *hpke.Context, more []byte, n int) []byte {
	t.Helper()
	b, e := c.Export(more, n)
	if e != api.OK || len(b) != n {
		t.Fatalf("Export of %d bytes with %d more: %d bytes, error %d", n, len(more), len(b), e)
	}
	return b
}
