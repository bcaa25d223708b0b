package labels_test

import (
	"bytes"
	"crypto/ed25519"
	"crypto/hkdf"
	"crypto/sha256"
	"encoding/binary"
	"encoding/hex"
	"math/rand"
	"slices"
	"testing"

	"synod/api"
	"synod/hpke"
)

// most: bytes that a label and a content may have.
const most = api.MaxBytes - 8

func sample(seed int64, n int) []byte {
	b := make([]byte, n)
	rand.New(rand.NewSource(seed)).Read(b)
	return b
}

func fromHex(t *testing.T, s string) []byte {
	t.Helper()
	b, err := hex.DecodeString(s)
	if err != nil {
		t.Fatal(err)
	}
	return b
}

// flipped: b with one bit changed.
func flipped(b []byte, bit int) []byte {
	b = bytes.Clone(b)
	b[bit/8] ^= 1 << (bit % 8)
	return b
}

// others: lists that have not n bytes.
func others(n int) [][]byte {
	out := [][]byte{nil, {}, make([]byte, api.MaxBytes+n)}
	for _, m := range []int{1, n - 1, n + 1, 2 * n, 256 + n} {
		out = append(out, make([]byte, m), sample(int64(m), m))
	}
	return out
}

// slowVector: chapter 11's words one by one.
func slowVector(b []byte) []byte {
	var head []byte
	switch n := len(b); {
	case n <= 63:
		head = []byte{byte(n)}
	case n <= 16383:
		head = binary.BigEndian.AppendUint16(nil, 0x4000|uint16(n))
	default:
		head = binary.BigEndian.AppendUint32(nil, 0x80000000|uint32(n))
	}
	return slices.Concat(head, b)
}

// slowLabelled: the chapter's words.
func slowLabelled(label string, content []byte) []byte {
	return slices.Concat(slowVector([]byte("MLS 1.0 "+label)), slowVector(content))
}

// slowExpand: the chapter's words, by the library.
func slowExpand(t *testing.T, secret []byte, label string, context []byte, n int) []byte {
	t.Helper()
	info := slices.Concat([]byte{byte(n / 256), byte(n % 256)}, slowLabelled(label, context))
	out, err := hkdf.Expand(sha256.New, secret, string(info), n)
	if err != nil {
		t.Fatal(err)
	}
	return out
}

// slowSign: the chapter's words, by the library.
func slowSign(seed []byte, label string, content []byte) []byte {
	return ed25519.Sign(ed25519.NewKeyFromSeed(seed), slowLabelled(label, content))
}

// slowRef: the chapter's words, by the library.
func slowRef(label string, value []byte) []byte {
	sum := sha256.Sum256(slices.Concat(slowVector([]byte(label)), slowVector(value)))
	return sum[:]
}

func slowPublic(seed []byte) []byte {
	return ed25519.NewKeyFromSeed(seed).Public().(ed25519.PublicKey)
}

// keyPair: to seal to.
func keyPair(seed int64) (secret, public []byte) { return hpke.Derive(sample(seed, 32)) }

// pair: a label and what it labels.
type pair struct {
	label   string
	content []byte
}

// pairs: of lengths at which the form of a vector changes (a label's with and without the version), the empty ones too, and of bytes that look like lengths or like the version.
func pairs() []pair {
	var out []pair
	for i, n := range []int{0, 1, 5, 54, 55, 56, 62, 63, 64, 200, 16375, 16376, 16383, 16384} {
		for j, m := range []int{0, 1, 32, 63, 64, 255, 16383, 16384} {
			if n < 1000 || m < 1000 {
				out = append(out, pair{string(sample(int64(i), n)), sample(int64(100+j), m)})
			}
		}
	}
	for _, label := range []string{"", "a", "key", "FramedContentTBS", "UpdatePathNode", "MLS 1.0 ", "MLS 1.0 KeyPackage Reference", "\x00", "\x00\x00", "\x40\x00", "\xff\xfe", "żółć"} {
		for _, content := range []string{"", "a", "MLS 1.0 ", "\x00", "\x01\x00", "a text"} {
			out = append(out, pair{label, []byte(content)})
		}
	}
	return out
}

// longPairs: as long as they may be, or nearly.
func longPairs() []pair {
	return []pair{
		{string(sample(1, most)), nil},
		{"a", sample(2, most)},
		{string(sample(1, most)), sample(2, most)},
		{string(sample(1, most-1)), sample(2, most-1)},
	}
}
