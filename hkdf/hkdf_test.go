package hkdf_test

import (
	"bytes"
	stdhmac "crypto/hmac"
	"crypto/sha256"
	"encoding/hex"
	"math"
	"math/rand"
	"strings"
	"testing"

	"synod/api"
	"synod/hkdf"
)

const maxExpand = 8160

func sample(n int) []byte {
	b := make([]byte, n)
	rand.New(rand.NewSource(int64(n))).Read(b)
	return b
}

func unhex(t *testing.T, text string) []byte {
	t.Helper()
	b, err := hex.DecodeString(text)
	if err != nil {
		t.Fatal(err)
	}
	return b
}

// libraryHmac: what the library says, to hold ours against.
func libraryHmac(key []byte, parts ...[]byte) []byte {
	h := stdhmac.New(sha256.New, key)
	for _, p := range parts {
		h.Write(p)
	}
	return h.Sum(nil)
}

// libraryExpand: all 255 tags by the chapter's rule, of the library's Hmac.
func libraryExpand(prk, info []byte) []byte {
	var all, last []byte
	for i := 1; i <= 255; i++ {
		last = libraryHmac(prk, last, info, []byte{byte(i)})
		all = append(all, last...)
	}
	return all
}

func expand(t *testing.T, prk, info []byte, n int) []byte {
	t.Helper()
	out, e := hkdf.Expand(prk, info, n)
	if e != api.OK || len(out) != n {
		t.Fatalf("Expand of %d bytes: %d bytes, error %d", n, len(out), e)
	}
	return out
}

// calls: each call that answers bytes, of two lists.
func calls() map[string]func(a, b []byte) []byte {
	return map[string]func(a, b []byte) []byte{
		"Hmac":    hkdf.Hmac,
		"Extract": hkdf.Extract,
		"Expand": func(a, b []byte) []byte {
			out, _ := hkdf.Expand(a, b, 100)
			return out
		},
		"Equal": func(a, b []byte) []byte {
			if hkdf.Equal(a, b) {
				return []byte{1}
			}
			return []byte{0}
		},
	}
}

// withRoom: b with room behind it, and the whole of that memory.
func withRoom(b []byte) (part, whole []byte) {
	whole = append(bytes.Clone(b), sample(300)...)
	return whole[:len(b)], whole
}

// P201: what is handed in is not changed, nor the room behind it.
func TestHandedInIsNotChanged(t *testing.T) {
	for name, call := range calls() {
		for n := range 140 {
			one, wholeOne := withRoom(sample(n))
			two, wholeTwo := withRoom(sample(2 * n))
			beforeOne, beforeTwo := bytes.Clone(wholeOne), bytes.Clone(wholeTwo)
			call(one, two)
			call(two, one)
			if !bytes.Equal(wholeOne, beforeOne) || !bytes.Equal(wholeTwo, beforeTwo) {
				t.Fatalf("%s of %d bytes: changed", name, n)
			}
		}
	}
}

// P201: one list handed in for both is no more than two lists of the same bytes.
func TestOneListForBoth(t *testing.T) {
	for name, call := range calls() {
		for n := range 140 {
			both := sample(n)
			if !bytes.Equal(call(both, both), call(sample(n), sample(n))) {
				t.Fatalf("%s of %d bytes", name, n)
			}
		}
	}
}

func spoil(b []byte) {
	b = b[:cap(b)]
	for i := range b {
		b[i] ^= 0xff
	}
}

// P201: what is answered is new memory, the room behind it too; what was answered ahead has no weight.
func TestAnswersAreNewMemory(t *testing.T) {
	for name, call := range calls() {
		for _, n := range []int{0, 1, 32, 64, 65, 200} {
			key, text := sample(n), sample(n+1)
			one, two := call(key, text), call(key, text)
			want := bytes.Clone(one)
			spoil(one)
			if !bytes.Equal(two, want) || !bytes.Equal(call(key, text), want) {
				t.Errorf("%s of %d bytes: two answers share memory", name, n)
			}
			if !bytes.Equal(key, sample(n)) || !bytes.Equal(text, sample(n+1)) {
				t.Errorf("%s of %d bytes: an answer shares memory with an argument", name, n)
			}
		}
	}
}

// P201: nil and empty mean the same.
func TestNilAndEmpty(t *testing.T) {
	some := sample(20)
	for name, call := range calls() {
		for _, other := range [][]byte{nil, {}, some} {
			if !bytes.Equal(call(nil, other), call([]byte{}, other)) {
				t.Errorf("%s: the first one nil, and empty", name)
			}
			if !bytes.Equal(call(other, nil), call(other, []byte{})) {
				t.Errorf("%s: the second one nil, and empty", name)
			}
		}
	}
}

// P202: tags that are known: the chapter's example, RFC 4231's, and the one of nothing.
func TestKnownTags(t *testing.T) {
	if got := hkdf.Hmac([]byte("key"), []byte("The quick brown fox jumps over the lazy dog")); !bytes.HasPrefix(got, []byte{247, 188, 131, 244}) {
		t.Errorf("the chapter's example: %v", got)
	}
	for _, c := range []struct{ key, text, want string }{
		{"", "", "b613679a0814d9ec772f95d778c35fc5ff1697c493715653c6c712144292c5ad"},
		{strings.Repeat("\x0b", 20), "Hi There", "b0344c61d8db38535ca8afceaf0bf12b881dc200c9833da726e9376c2e32cff7"},
		{"Jefe", "what do ya want for nothing?", "5bdcc146bf60754e6a042426089575c75a003f089d2739839dec58b964ec3843"},
		{strings.Repeat("\xaa", 20), strings.Repeat("\xdd", 50), "773ea91e36800e46854db8ebd09181a72959098b3ef8c122d9635514ced565fe"},
		{strings.Repeat("\xaa", 131), "Test Using Larger Than Block-Size Key - Hash Key First", "60e431591ee0b67f0d8a26aacbf5b77f8e0bc6213728c5140546040f0ee37f54"},
		{strings.Repeat("\xaa", 131), "This is a test using a larger than block-size key and a larger than block-size data. The key needs to be hashed before being used by the HMAC algorithm.", "9b09ffa71b942fcb27635fbcd5b0e944bfdc63644f0713938a7f51535c3a35e2"},
	} {
		if got := hex.EncodeToString(hkdf.Hmac([]byte(c.key), []byte(c.text))); got != c.want {
			t.Errorf("key of %d bytes, %q: %s", len(c.key), c.text, got)
		}
	}
}

// P202: keys of all lengths across the edge of 64 bytes, with texts of none and of many bytes.
func TestTagsOfAllKeys(t *testing.T) {
	for n := range 200 {
		for _, key := range [][]byte{sample(n), make([]byte, n), bytes.Repeat([]byte{255}, n)} {
			for _, size := range []int{0, 1, 55, 56, 63, 64, 65, 119, 120, 300} {
				text := sample(size)
				if got := hkdf.Hmac(key, text); !bytes.Equal(got, libraryHmac(key, text)) {
					t.Fatalf("key of %d bytes, text of %d: %x", n, size, got)
				}
			}
		}
	}
}

// P202: a key and a text as long as the program's greatest lists.
func TestTagsOfLongLists(t *testing.T) {
	long := sample(api.MaxBytes + 1)
	for _, c := range [][2][]byte{{long, nil}, {nil, long}, {long, long}, {sample(64), long}} {
		if !bytes.Equal(hkdf.Hmac(c[0], c[1]), libraryHmac(c[0], c[1])) {
			t.Errorf("key of %d bytes, text of %d", len(c[0]), len(c[1]))
		}
	}
}

// P203, P204: RFC 5869's cases with SHA-256.
func TestKnownKeys(t *testing.T) {
	counted := func(from, n int) string {
		b := make([]byte, n)
		for i := range b {
			b[i] = byte(from + i)
		}
		return hex.EncodeToString(b)
	}
	for i, c := range []struct{ ikm, salt, info, prk, okm string }{
		{strings.Repeat("0b", 22), counted(0, 13), counted(0xf0, 10),
			"077709362c2e32df0ddc3f0dc47bba6390b6c73bb50f9c3122ec844ad7c2b3e5",
			"3cb25f25faacd57a90434f64d0362f2a2d2d0a90cf1a5a4c5db02d56ecc4c5bf34007208d5b887185865"},
		{counted(0, 80), counted(0x60, 80), counted(0xb0, 80),
			"06a6b88c5853361a06104c9ceb35b45cef760014904671014a193f40c15fc244",
			"b11e398dc80327a1c8e7f78c596a49344f012eda2d4efad8a050cc4c19afa97c59045a99cac7827271cb41c65e590e09da3275600c2f09b8367793a9aca3db71cc30c58179ec3e87c14c01d5c1f3434f1d87"},
		{strings.Repeat("0b", 22), "", "",
			"19ef24a32c717b167f33a91d6f648bdf96596776afdb6377ac434c1c293ccb04",
			"8da4e775a563c18f715f802a063c5a31b8a11f5c5ee1879ec3454e5f3c738d2d9d201395faa4b61a96c8"},
	} {
		prk := hkdf.Extract(unhex(t, c.salt), unhex(t, c.ikm))
		if hex.EncodeToString(prk) != c.prk {
			t.Errorf("case %d: Extract %x", i+1, prk)
		}
		okm := expand(t, unhex(t, c.prk), unhex(t, c.info), len(c.okm)/2)
		if hex.EncodeToString(okm) != c.okm {
			t.Errorf("case %d: Expand %x", i+1, okm)
		}
	}
}

// P203: salts of all lengths, an empty one as 32 zeros.
func TestExtract(t *testing.T) {
	for n := range 140 {
		for _, ikm := range [][]byte{nil, sample(32), sample(100)} {
			salt := sample(n)
			want := libraryHmac(salt, ikm)
			if n == 0 {
				want = libraryHmac(make([]byte, 32), ikm)
			}
			if got := hkdf.Extract(salt, ikm); !bytes.Equal(got, want) {
				t.Fatalf("salt of %d bytes, %d bytes: %x", n, len(ikm), got)
			}
		}
	}
	if !bytes.Equal(hkdf.Extract(nil, []byte("secret")), hkdf.Hmac(make([]byte, 32), []byte("secret"))) {
		t.Error("an empty salt is not 32 zeros")
	}
}

// P204: the edges of n, and n that may not be.
func TestExpandEdges(t *testing.T) {
	prk, info := sample(32), sample(17)
	all := libraryExpand(prk, info)
	for _, n := range []int{0, 1, 31, 32, 33, 63, 64, 65, 8127, 8128, 8129, maxExpand - 1, maxExpand} {
		if !bytes.Equal(expand(t, prk, info, n), all[:n]) {
			t.Errorf("%d bytes", n)
		}
	}
	for _, n := range []int{-1, -32, -maxExpand, math.MinInt, maxExpand + 1, maxExpand + 32, 1 << 16, 1 << 32, 1<<32 + 32, math.MaxInt} {
		for _, key := range [][]byte{nil, prk} {
			out, e := hkdf.Expand(key, info, n)
			if e != api.ErrSize || len(out) != 0 {
				t.Errorf("%d bytes: %d bytes, error %d", n, len(out), e)
			}
		}
	}
}

// P204: keys and infos of many lengths.
func TestExpandOfAllKeys(t *testing.T) {
	for _, n := range []int{0, 1, 31, 32, 33, 63, 64, 65, 128, 500} {
		for _, m := range []int{0, 1, 22, 23, 31, 32, 33, 64, 1000, api.MaxBytes} {
			prk, info := sample(n), sample(m)
			first := libraryHmac(prk, info, []byte{1})
			second := libraryHmac(prk, first, info, []byte{2})
			third := libraryHmac(prk, second, info, []byte{3})
			want := bytes.Join([][]byte{first, second, third}, nil)
			if !bytes.Equal(expand(t, prk, info, 96), want) {
				t.Fatalf("key of %d bytes, info of %d", n, m)
			}
		}
	}
}

// P205: the same bytes, and bytes that differ in one place and one bit.
func TestEqual(t *testing.T) {
	for n := range 70 {
		if !hkdf.Equal(sample(n), sample(n)) {
			t.Fatalf("%d bytes that are the same", n)
		}
		for at := range n {
			for bit := range 8 {
				other := sample(n)
				other[at] ^= 1 << bit
				if hkdf.Equal(sample(n), other) || hkdf.Equal(other, sample(n)) {
					t.Fatalf("%d bytes that differ at %d", n, at)
				}
			}
		}
	}
}

// P205: two places that differ by the same bits, which must not take each other away.
func TestEqualOfTwoPlaces(t *testing.T) {
	for n := 2; n < 40; n++ {
		for at := 1; at < n; at++ {
			other := sample(n)
			other[0] ^= 0x55
			other[at] ^= 0x55
			if hkdf.Equal(sample(n), other) {
				t.Fatalf("%d bytes that differ at 0 and %d", n, at)
			}
		}
	}
}

// P205: unlike lengths, the shorter one the other's beginning.
func TestEqualOfUnlikeLengths(t *testing.T) {
	for _, b := range [][]byte{sample(40), make([]byte, 40)} {
		for n := range 41 {
			for m := range 41 {
				if hkdf.Equal(b[:n], b[:m]) != (n == m) {
					t.Fatalf("%d bytes and %d", n, m)
				}
			}
		}
	}
	if !hkdf.Equal(nil, nil) || !hkdf.Equal(nil, []byte{}) || hkdf.Equal(nil, []byte{0}) || hkdf.Equal([]byte{0}, nil) {
		t.Error("nothing")
	}
}

// P206: Expand of n bytes is the beginning of Expand of more.
func TestExpandIsABeginning(t *testing.T) {
	prk, info := sample(32), []byte("beginning")
	most := expand(t, prk, info, maxExpand)
	for n := 0; n <= maxExpand; n += 1 + n/20 {
		if !bytes.HasPrefix(most, expand(t, prk, info, n)) {
			t.Fatalf("%d bytes", n)
		}
	}
	for n := range 130 {
		if !bytes.HasPrefix(expand(t, prk, info, n+1), expand(t, prk, info, n)) {
			t.Fatalf("%d bytes and one more", n)
		}
	}
}

// P207: a key with zeros behind it, up to 64 bytes, is the same key; one zero more makes another one.
func TestZerosBehindAKey(t *testing.T) {
	text := sample(77)
	for n := range 65 {
		key := sample(n)
		want := hkdf.Hmac(key, text)
		for m := n; m <= 64; m++ {
			long := append(bytes.Clone(key), make([]byte, m-n)...)
			if !bytes.Equal(hkdf.Hmac(long, text), want) {
				t.Fatalf("key of %d bytes, with zeros up to %d", n, m)
			}
		}
		if bytes.Equal(hkdf.Hmac(append(bytes.Clone(key), make([]byte, 65-n)...), text), want) {
			t.Fatalf("key of %d bytes, with zeros up to 65", n)
		}
	}
}
