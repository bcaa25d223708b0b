package framing_test

import (
	"bytes"
	"crypto/ed25519"
	"slices"
	"testing"

	"synod/api"
	"synod/framing"
)

// checkSigned: that one, and that error.
func checkSigned(t *testing.T, what any, s framing.Signed, e api.Errno, want framing.Signed, wanted api.Errno) {
	t.Helper()
	if e != wanted || !sameSigned(s, want) {
		t.Fatalf("%s: %s, error %d, not %s, %d", short(what), short(s), e, short(want), wanted)
	}
}

func checkVerify(t *testing.T, what any, public []byte, s framing.Signed, context []byte, want api.Errno) {
	t.Helper()
	if e := framing.Verify(public, s, context); e != want {
		t.Fatalf("%s: error %d, not %d", short(what), e, want)
	}
}

// signedBy: s with the signature by that seed, by Go's library.
func signedBy(seed []byte, s framing.Signed, context []byte) framing.Signed {
	s.Signature = slowSignature(seed, s.Content, s.Wire, context)
	return s
}

// P1802, P1807: Sign of all that may be, against the library's, and what is signed is verified.
func TestSign(t *testing.T) {
	for i, s := range signeds() {
		seed, context := sample(int64(i), 32), sample(int64(i), i%5*500)
		got, e := framing.Sign(seed, s.Content, s.Wire, context, s.Confirm)
		checkSigned(t, s, got, e, signedBy(seed, s, context), api.OK)
		checkVerify(t, s, slowPublicKey(seed), got, context, api.OK)
	}
}

// P1802: ErrArg of what may not be, ahead of ErrSize of the context, ahead of ErrArg of the seed.
func TestSignRefused(t *testing.T) {
	seed := sample(1, 32)
	for _, s := range unfit() {
		for _, n := range []int{0, mostContext + 1} {
			got, e := framing.Sign(seed, s.Content, s.Wire, make([]byte, n), s.Confirm)
			checkSigned(t, s, got, e, framing.Signed{}, api.ErrArg)
		}
	}
	for _, s := range baseSigneds() {
		for _, n := range longContexts {
			got, e := framing.Sign(seed, s.Content, s.Wire, make([]byte, n), s.Confirm)
			checkSigned(t, n, got, e, framing.Signed{}, api.ErrSize)
			got, e = framing.Sign(nil, s.Content, s.Wire, make([]byte, n), s.Confirm)
			checkSigned(t, n, got, e, framing.Signed{}, api.ErrSize)
		}
		for _, n := range lengths(32) {
			got, e := framing.Sign(make([]byte, n), s.Content, s.Wire, make([]byte, mostContext), s.Confirm)
			checkSigned(t, n, got, e, framing.Signed{}, api.ErrArg)
		}
	}
}

// P1802: Verify of what may not be: ErrArg, whatever else there is.
func TestVerifyRefused(t *testing.T) {
	public := slowPublicKey(sample(1, 32))
	for _, s := range badSigneds() {
		checkVerify(t, s, public, s, nil, api.ErrArg)
		checkVerify(t, s, nil, s, make([]byte, mostContext+1), api.ErrArg)
	}
	noPoint := append([]byte{2}, make([]byte, 31)...)
	for _, s := range baseSigneds() {
		for _, n := range longContexts {
			checkVerify(t, n, public, s, make([]byte, n), api.ErrSize)
			checkVerify(t, n, nil, s, make([]byte, n), api.ErrSize)
			checkVerify(t, n, noPoint, s, make([]byte, n), api.ErrSize)
		}
		for _, n := range lengths(32) {
			checkVerify(t, n, make([]byte, n), s, make([]byte, mostContext), api.ErrArg)
		}
		checkVerify(t, "no point", noPoint, s, nil, api.ErrPoint)
		checkVerify(t, "a signature of nobody", public, s, nil, api.ErrSign)
	}
}

// P1802: the Confirm, which is made of the signature, has no part in it.
func TestConfirmIsNotSigned(t *testing.T) {
	seed, context := sample(1, 32), []byte("context")
	for _, s := range baseSigneds() {
		if s.Content.Kind == framing.Commit {
			s = signedBy(seed, s, context)
			s.Confirm = make([]byte, 32)
			checkVerify(t, s, slowPublicKey(seed), s, context, api.OK)
		}
	}
}

// P1802: each bit of a signature; other contexts, keys, ways and contents.
func TestSignedOtherwise(t *testing.T) {
	seed, context := sample(1, 32), []byte("context")
	public := slowPublicKey(seed)
	for _, s := range baseSigneds() {
		s = signedBy(seed, s, context)
		check := func(what any, change func(s *framing.Signed)) {
			t.Helper()
			checkVerify(t, what, public, with(s, change), context, api.ErrSign)
		}
		checkVerify(t, "as it was", public, s, context, api.OK)
		for bit := range 8 * 64 {
			if bit%5 == s.Content.Kind {
				check(bit, func(s *framing.Signed) { s.Signature = flipped(s.Signature, bit) })
			}
		}
		for i, list := range contentLists(&s.Content) {
			check(i, func(s *framing.Signed) { *contentLists(&s.Content)[i] = flipped(*list, 5) })
			check(i, func(s *framing.Signed) { *contentLists(&s.Content)[i] = nil })
		}
		check("another epoch", func(s *framing.Signed) { s.Content.Epoch++ })
		if s.Content.From == framing.Member {
			check("another leaf", func(s *framing.Signed) { s.Content.Leaf++ })
		}
		if len(waysOf(s.Content)) == 2 {
			check("another way", func(s *framing.Signed) { s.Wire = framing.Public + framing.Private - s.Wire })
		}
		for _, other := range [][]byte{nil, []byte("contex"), []byte("context "), []byte("Context"), make([]byte, mostContext)} {
			checkVerify(t, other, public, s, other, api.ErrSign)
		}
		checkVerify(t, "another key", slowPublicKey(sample(2, 32)), s, context, api.ErrSign)
	}
}

// P1802: what is signed for no label, for another one, or with the Confirm, is not signed.
func TestSignedForOthers(t *testing.T) {
	seed, context := sample(1, 32), []byte("context")
	key := ed25519.NewKeyFromSeed(seed)
	for _, s := range baseSigneds() {
		text := slowText(s.Content, s.Wire, context)
		for _, other := range [][]byte{
			text,
			slowLabelled("", text),
			slowLabelled("FramedContentTBM", text),
			slowLabelled("FramedContentTBS", text[4:]),
			slowLabelled("FramedContentTBS", append(bytes.Clone(text), 0)),
			slowLabelled("FramedContentTBS", slices.Concat(text, slowVector(sample(5, 32)))),
			slices.Concat(slowVector([]byte("FramedContentTBS")), slowVector(text)),
		} {
			s.Signature = ed25519.Sign(key, other)
			checkVerify(t, other, slowPublicKey(seed), s, context, api.ErrSign)
		}
	}
}
