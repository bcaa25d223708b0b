package ratchet

import "synod/labels"

const seedSize = 32

// seed: a secret that others are made of.
type seed [seedSize]byte

// expand: no label, context and size here is one that labels refuses.
func (s seed) expand(label string, context []byte, n int) []byte {
	b, _ := labels.Expand(s[:], label, context, n)
	return b
}

// half: that of a place's left or right part, s being the place's.
func (s seed) half(side string) seed { return seed(s.expand("tree", []byte(side), seedSize)) }

// first: a leaf's ratchet where it begins, s being the leaf's.
func (s seed) first(text bool) ratchet {
	label := "handshake"
	if text {
		label = "application"
	}
	return ratchet{secret: seed(s.expand(label, nil, seedSize))}
}

// ratchet: where it stands, and the secret there.
type ratchet struct {
	gen    int
	secret seed
}

// keys: what one message is sealed with.
type keys struct {
	key   [16]byte
	nonce [12]byte
}

func (r ratchet) keys() keys {
	var k keys
	copy(k.key[:], r.expand("key", len(k.key)))
	copy(k.nonce[:], r.expand("nonce", len(k.nonce)))
	return k
}

func (r ratchet) next() ratchet {
	return ratchet{gen: r.gen + 1, secret: seed(r.expand("secret", seedSize))}
}

// expand: for that label, and for this generation alone.
func (r ratchet) expand(label string, n int) []byte {
	g := r.gen
	return r.secret.expand(label, []byte{byte(g >> 24), byte(g >> 16), byte(g >> 8), byte(g)}, n)
}
