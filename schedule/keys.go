package schedule

import (
	"slices"

	"synod/api"
	"synod/hkdf"
	"synod/labels"
)

const (
	maxPsks   = 100
	maxID     = 255 // bytes of an ID, and of a Nonce
	maxKey    = api.MaxBytes - 8
	outside   = 1 // the kind of a Psk that did not come of an epoch
	placeSize = 2 // bytes of a Psk's place in the list, and of how many there are
)

// PskSecret: one secret of all keys, in their order. ErrArg of more than 100, and of one that may not be.
func PskSecret(l []Psk) ([]byte, api.Errno) {
	if len(l) > maxPsks || slices.ContainsFunc(l, tooLong) {
		return nil, api.ErrArg
	}
	return chain(make([]byte, keySize), l, func(secret []byte, i int, p Psk) ([]byte, api.Errno) {
		key, e := labels.Expand(hkdf.Extract(make([]byte, keySize), p.Key), "derived psk", pskText(p, i, len(l)), keySize)
		return hkdf.Extract(key, secret), e
	})
}

func tooLong(p Psk) bool {
	return len(p.ID) > maxID || len(p.Nonce) > maxID || len(p.Key) > maxKey
}

// pskText: which key it is, the ith of n.
func pskText(p Psk, i, n int) []byte {
	return slices.Concat([]byte{outside}, vectors(p.ID, p.Nonce), number(i, placeSize), number(n, placeSize))
}

// chain: the last of some keys, each of which is made of the one before it and of the next link; or the first error.
func chain[L any](key []byte, links []L, next func(key []byte, i int, link L) ([]byte, api.Errno)) ([]byte, api.Errno) {
	for i, link := range links {
		var e api.Errno
		if key, e = next(key, i, link); e != api.OK {
			return nil, e
		}
	}
	return key, api.OK
}

// step: what a key is expanded for.
type step struct {
	label   string
	context []byte
	n       int
}

// keyFor: of a secret, for that label and a Context's bytes. ErrArg, if it may not be.
func keyFor(secret []byte, label string, c Context) ([]byte, api.Errno) {
	b, e := PutContext(c)
	if e != api.OK {
		return nil, e
	}
	return labels.Expand(secret, label, b, keySize)
}

// welcomeOf: of what a joiner and the shared keys make together.
func welcomeOf(both []byte) []byte { return labels.Derive(both, "welcome") }

// derived: the label of one of an epoch's secrets, and where it belongs.
type derived struct {
	label string
	to    *[]byte
}

func derivedOf(s *Secrets) []derived {
	return []derived{
		{"sender data", &s.SenderData},
		{"encryption", &s.Encryption},
		{"exporter", &s.Exporter},
		{"external", &s.External},
		{"confirm", &s.Confirm},
		{"membership", &s.Member},
		{"resumption", &s.Resume},
		{"authentication", &s.Authenticate},
		{"init", &s.Init},
	}
}
