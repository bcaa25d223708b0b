package hpke

import "synod/hkdf"

// size: bytes of a secret, of a public, and of what is shared.
const size = 32

const version = "HPKE-v1"

// suite: whose steps they are, so that no two of them make the same of the same bytes.
type suite string

const (
	kem suite = "KEM\x00\x20"
	all suite = "HPKE\x00\x20\x00\x01\x00\x01"
)

// extract: a key that can be expanded, of a salt and of texts, one behind the other.
func (s suite) extract(salt []byte, label string, texts ...[]byte) []byte {
	return hkdf.Extract(salt, s.labelled(nil, label, texts...))
}

// expand: n bytes of a key, for what texts say, one behind the other. No n of this package is one that hkdf refuses.
func (s suite) expand(prk []byte, n int, label string, texts ...[]byte) []byte {
	length := []byte{byte(n >> 8), byte(n)}
	out, _ := hkdf.Expand(prk, s.labelled(length, label, texts...), n)
	return out
}

// labelled: what is ahead, what the step is, and its texts.
func (s suite) labelled(ahead []byte, label string, texts ...[]byte) []byte {
	out := append([]byte(nil), ahead...)
	out = append(out, version...)
	out = append(out, s...)
	out = append(out, label...)
	for _, b := range texts {
		out = append(out, b...)
	}
	return out
}

// sharedOf: dh alone would not tell which two publics it is of; with both, another one's bytes for the same point make another key.
func sharedOf(dh, enc, public []byte) []byte {
	return kem.expand(kem.extract(nil, "eae_prk", dh), size, "shared_secret", enc, public)
}
