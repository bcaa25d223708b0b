package framing_test

import (
	"crypto/aes"
	"crypto/cipher"
	"crypto/ed25519"
	"crypto/hkdf"
	"crypto/hmac"
	"crypto/sha256"
	"encoding/binary"
	"slices"
	"testing"

	"synod/framing"
)

// The chapter's words one by one, whatever may be, by Go's library.

func slowVector(b []byte) []byte {
	switch n := len(b); {
	case n <= 63:
		return append([]byte{byte(n)}, b...)
	case n <= 16383:
		return append(binary.BigEndian.AppendUint16(nil, 0x4000|uint16(n)), b...)
	default:
		return append(binary.BigEndian.AppendUint32(nil, 0x80000000|uint32(n)), b...)
	}
}

func inTwo(n int) []byte { return binary.BigEndian.AppendUint16(nil, uint16(n)) }

func inFour(n int) []byte { return binary.BigEndian.AppendUint32(nil, uint32(n)) }

func inEight(n int) []byte { return binary.BigEndian.AppendUint64(nil, uint64(n)) }

func slowContent(c framing.Content) []byte {
	b := slices.Concat(slowVector(c.Group), inEight(c.Epoch), []byte{byte(c.From)})
	if c.From == framing.Member {
		b = append(b, inFour(c.Leaf)...)
	}
	return slices.Concat(b, slowVector(c.More), []byte{byte(c.Kind)}, slowVector(c.Body))
}

func slowText(c framing.Content, wire int, context []byte) []byte {
	return slices.Concat([]byte{0, 1}, inTwo(wire), slowContent(c), context)
}

// slowLabelled: of less than 64 bytes of a label.
func slowLabelled(label string, content []byte) []byte {
	return slices.Concat(slowVector([]byte("MLS 1.0 "+label)), slowVector(content))
}

func slowSignature(seed []byte, c framing.Content, wire int, context []byte) []byte {
	return ed25519.Sign(ed25519.NewKeyFromSeed(seed), slowLabelled("FramedContentTBS", slowText(c, wire, context)))
}

func slowPublicKey(seed []byte) []byte {
	return ed25519.NewKeyFromSeed(seed).Public().(ed25519.PublicKey)
}

func slowEnding(s framing.Signed) []byte {
	if s.Content.Kind == framing.Commit {
		return append(slowVector(s.Signature), slowVector(s.Confirm)...)
	}
	return slowVector(s.Signature)
}

func slowTag(s framing.Signed, member, context []byte) []byte {
	h := hmac.New(sha256.New, member)
	h.Write(slowText(s.Content, s.Wire, context))
	h.Write(slowEnding(s))
	return h.Sum(nil)
}

// slowPublic: with a tag, which one from who joins has not.
func slowPublic(s framing.Signed, tag []byte) []byte {
	b := slices.Concat([]byte{0, 1, 0, 1}, slowContent(s.Content), slowEnding(s))
	if s.Content.From == framing.Member {
		b = append(b, slowVector(tag)...)
	}
	return b
}

func slowExpand(t testing.TB, secret []byte, label string, context []byte, n int) []byte {
	t.Helper()
	out, err := hkdf.Expand(sha256.New, secret, string(append(inTwo(n), slowLabelled(label, context)...)), n)
	if err != nil {
		t.Fatal(err)
	}
	return out
}

func slowSeal(t testing.TB, key, nonce, more, text []byte) []byte {
	t.Helper()
	block, err := aes.NewCipher(key)
	if err != nil {
		t.Fatal(err)
	}
	box, err := cipher.NewGCM(block)
	if err != nil {
		t.Fatal(err)
	}
	return box.Seal(nil, nonce, text, more)
}

func slowGuarded(nonce, guard []byte) []byte {
	out := slices.Clone(nonce)
	for i := range 4 {
		out[i] ^= guard[i]
	}
	return out
}

// letter: all that a sealed message is made of. What is said inside may be anything.
type letter struct {
	framing.Sealed                   // its Group, Epoch, Kind, More
	secret, key, nonce, guard []byte // secret: the one for the sender's text
	inner, origin             []byte // the texts
}

// letterOf: of s as PutPrivate is to make it.
func letterOf(s framing.Signed, gen, pad int) letter {
	c := s.Content
	l := letter{
		Sealed: framing.Sealed{Group: c.Group, Epoch: c.Epoch, Kind: c.Kind, More: c.More},
		secret: sample(11, 32), key: sample(12, 16), nonce: sample(13, 12), guard: sample(14, 4),
	}
	l.inner = slices.Concat(slowVector(c.Body), slowEnding(s), make([]byte, pad))
	l.origin = slices.Concat(inFour(c.Leaf), inFour(gen), l.guard)
	return l
}

// sealed: both texts, by the words.
func (l letter) sealed(t testing.TB) framing.Sealed {
	t.Helper()
	start := slices.Concat(slowVector(l.Group), inEight(l.Epoch), []byte{byte(l.Kind)})
	x := l.Sealed
	x.Body = slowSeal(t, l.key, slowGuarded(l.nonce, l.guard), append(slices.Clone(start), slowVector(l.More)...), l.inner)
	some := x.Body[:min(32, len(x.Body))]
	x.Sender = slowSeal(t, slowExpand(t, l.secret, "key", some, 16), slowExpand(t, l.secret, "nonce", some, 12), start, l.origin)
	return x
}

// slowPrivate: a sealed message as it goes.
func slowPrivate(x framing.Sealed) []byte {
	return slices.Concat([]byte{0, 1, 0, 2}, slowVector(x.Group), inEight(x.Epoch), []byte{byte(x.Kind)}, slowVector(x.More), slowVector(x.Sender), slowVector(x.Body))
}
