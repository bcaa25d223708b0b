package hpke_test

import (
	"crypto/aes"
	"crypto/cipher"
	"crypto/ecdh"
	"crypto/hkdf"
	"crypto/sha256"
	"encoding/binary"
	"slices"
	"testing"
)

// The chapter's words, worked out once more by the library's hashes, curve and cipher.

const (
	kemSuite = "KEM\x00\x20"
	allSuite = "HPKE\x00\x20\x00\x01\x00\x01"
)

func slowExtract(t *testing.T, suite string, salt []byte, label string, ikm []byte) []byte {
	t.Helper()
	prk, err := hkdf.Extract(sha256.New, slices.Concat([]byte("HPKE-v1"), []byte(suite), []byte(label), ikm), salt)
	if err != nil {
		t.Fatal(err)
	}
	return prk
}

func slowExpand(t *testing.T, suite string, prk []byte, label string, info []byte, n int) []byte {
	t.Helper()
	if n == 0 {
		return nil
	}
	about := slices.Concat(binary.BigEndian.AppendUint16(nil, uint16(n)), []byte("HPKE-v1"), []byte(suite), []byte(label), info)
	out, err := hkdf.Expand(sha256.New, prk, string(about), n)
	if err != nil {
		t.Fatal(err)
	}
	return out
}

func slowSecret(t *testing.T, ikm []byte) *ecdh.PrivateKey {
	t.Helper()
	b := slowExpand(t, kemSuite, slowExtract(t, kemSuite, nil, "dkp_prk", ikm), "sk", nil, 32)
	return slowKey(t, b)
}

func slowKey(t *testing.T, secret []byte) *ecdh.PrivateKey {
	t.Helper()
	k, err := ecdh.X25519().NewPrivateKey(secret)
	if err != nil {
		t.Fatal(err)
	}
	return k
}

// slowShared: of mine and theirs, with the two publics as bytes.
func slowShared(t *testing.T, mine *ecdh.PrivateKey, theirs, enc, public []byte) []byte {
	t.Helper()
	p, err := ecdh.X25519().NewPublicKey(theirs)
	if err != nil {
		t.Fatal(err)
	}
	dh, err := mine.ECDH(p)
	if err != nil {
		t.Fatal(err)
	}
	return slowExpand(t, kemSuite, slowExtract(t, kemSuite, nil, "eae_prk", dh), "shared_secret", slices.Concat(enc, public), 32)
}

// slowContext: a context's keys, and the number of the message whose turn it is.
type slowContext struct {
	key, nonce, exporter []byte
	number               uint64
}

func slowNew(t *testing.T, shared, info []byte) *slowContext {
	t.Helper()
	about := slices.Concat([]byte{0}, slowExtract(t, allSuite, nil, "psk_id_hash", nil), slowExtract(t, allSuite, nil, "info_hash", info))
	s := slowExtract(t, allSuite, shared, "secret", nil)
	return &slowContext{
		key:      slowExpand(t, allSuite, s, "key", about, 16),
		nonce:    slowExpand(t, allSuite, s, "base_nonce", about, 12),
		exporter: slowExpand(t, allSuite, s, "exp", about, 32),
	}
}

func (c *slowContext) seal(t *testing.T, more, text []byte) []byte {
	t.Helper()
	block, err := aes.NewCipher(c.key)
	if err != nil {
		t.Fatal(err)
	}
	g, err := cipher.NewGCM(block)
	if err != nil {
		t.Fatal(err)
	}
	nonce := slices.Clone(c.nonce)
	binary.BigEndian.PutUint64(nonce[4:], binary.BigEndian.Uint64(nonce[4:])^c.number)
	c.number++
	return g.Seal(nil, nonce, text, more)
}

func (c *slowContext) export(t *testing.T, more []byte, n int) []byte {
	t.Helper()
	return slowExpand(t, allSuite, c.exporter, "sec", more, n)
}
