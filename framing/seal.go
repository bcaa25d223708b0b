package framing

import (
	"bytes"

	"synod/api"
	"synod/codec"
	"synod/gcm"
	"synod/labels"
)

const (
	secretSize = 32 // of a veil
	sampleSize = 32
	keySize    = 16
	nonceSize  = 12
	genSize    = 4
	guardSize  = 4
)

// origin: what the sender's text says: whose message it is, which one, and its guard.
type origin struct {
	leaf, gen int
	guard     []byte
}

func (o origin) mayBe() bool {
	return isLeaf(o.leaf) && o.gen >= 0 && o.gen <= maxGen && len(o.guard) == guardSize
}

func (o origin) bytes() []byte {
	return joined(number(o.leaf, leafSize), number(o.gen, genSize), o.guard)
}

// originIn: a sender's text. Whether it may be is still to be asked.
func originIn(text []byte) origin {
	r := codec.New(text)
	return origin{leaf: r.Number(leafSize), gen: r.Number(genSize), guard: r.Take(guardSize)}
}

// padding: how many zeros hide how long a message is.
type padding int

func (p padding) mayBe() bool { return p >= 0 && p <= maxPad }

func (p padding) zeros() []byte { return make([]byte, p) }

// lock: what is sealed, and opened, with.
type lock struct{ key, nonce []byte }

func (l lock) mayBe() bool { return len(l.key) == keySize && len(l.nonce) == nonceSize }

// guarded: with the guard in its nonce: so that a generation that is used twice by mistake hardly ever has a nonce twice.
func (l lock) guarded(guard []byte) lock {
	nonce := bytes.Clone(l.nonce)
	for i, b := range guard {
		nonce[i] ^= b
	}
	return lock{l.key, nonce}
}

// seal: lengths were asked ahead, so that gcm refuses none.
func (l lock) seal(more, text []byte) []byte {
	b, _ := gcm.Seal(l.key, l.nonce, more, text)
	return b
}

// open: or ErrOpen.
func (l lock) open(more, b []byte) ([]byte, api.Errno) {
	return gcm.Open(l.key, l.nonce, more, b)
}

// veil: the secret that hides who sends.
type veil []byte

func (v veil) mayBe() bool { return len(v) == secretSize }

// lock: it hangs on the sealed body, which hardly any two messages have alike: so that no nonce is used twice.
func (v veil) lock(body []byte) lock {
	sample := body[:min(len(body), sampleSize)]
	return lock{v.expand("key", sample, keySize), v.expand("nonce", sample, nonceSize)}
}

// expand: no label, sample and size here is one that labels refuses.
func (v veil) expand(label string, sample []byte, n int) []byte {
	b, _ := labels.Expand(v, label, sample, n)
	return b
}
