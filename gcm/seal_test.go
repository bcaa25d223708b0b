package gcm_test

import (
	"bytes"
	"crypto/aes"
	"crypto/cipher"
	"testing"

	"synod/api"
	"synod/gcm"
)

// librarySeal: what the library says, to hold ours against.
func librarySeal(t *testing.T, key, nonce, more, text []byte) []byte {
	t.Helper()
	c, err := aes.NewCipher(key)
	if err != nil {
		t.Fatal(err)
	}
	g, err := cipher.NewGCM(c)
	if err != nil {
		t.Fatal(err)
	}
	return g.Seal(nil, nonce, text, more)
}

// checkThereAndBack: Seal against the library's, and Open of it.
func checkThereAndBack(t *testing.T, key, nonce, more, text []byte) {
	t.Helper()
	sealed := seal(t, key, nonce, more, text)
	if want := librarySeal(t, key, nonce, more, text); !bytes.Equal(sealed, want) {
		t.Fatalf("Seal of %d bytes and %d more: %x, not %x", len(text), len(more), sealed, want)
	}
	if got := open(t, key, nonce, more, sealed); !bytes.Equal(got, text) {
		t.Fatalf("Open of Seal of %d bytes and %d more: %x, not %x", len(text), len(more), got, text)
	}
}

// P903, P904, P905: texts and mores of all lengths up to some blocks.
func TestAllLengths(t *testing.T) {
	key, nonce := sample(1, 16), sample(2, 12)
	for n := range 70 {
		for m := range 40 {
			checkThereAndBack(t, key, nonce, sample(int64(m), m), sample(int64(n), n))
		}
	}
}

// P903, P904, P905: keys and nonces at their edges: zeros, all 255, single bits.
func TestEdgesOfKeysAndNonces(t *testing.T) {
	for _, key := range edges() {
		checkThereAndBack(t, key, sample(1, 12), sample(2, 20), sample(3, 33))
	}
	checkThereAndBack(t, sample(4, 16), bytes.Repeat([]byte{255}, 12), nil, make([]byte, 50))
	for bit := range 96 {
		nonce := make([]byte, 12)
		nonce[bit/8] = 1 << (bit % 8)
		checkThereAndBack(t, sample(4, 16), nonce, sample(2, 20), sample(3, 33))
	}
}

// P903, P904, P905: chance ones, texts of zeros and of 255 among them.
func TestManyTexts(t *testing.T) {
	for i := range int64(400) {
		key, nonce, n := sample(i, 16), sample(i+1, 12), int(i*37%500)
		checkThereAndBack(t, key, nonce, sample(i+2, int(i*11%200)), sample(i+3, n))
		checkThereAndBack(t, key, nonce, nil, make([]byte, n))
		checkThereAndBack(t, key, nonce, bytes.Repeat([]byte{255}, n), bytes.Repeat([]byte{255}, n))
	}
}

// P903, P904, P905: texts and mores so long that the counters pass one byte, and as long as they may be.
func TestLongTexts(t *testing.T) {
	key, nonce := sample(1, 16), sample(2, 12)
	lengths := []int{16 * 253, 16*254 - 1, 16 * 254, 16*254 + 1, 16 * 255, 16 * 256, 16*256 + 1, api.MaxBytes - 17, api.MaxBytes - 1, api.MaxBytes}
	for _, n := range lengths {
		checkThereAndBack(t, key, nonce, nil, sample(3, n))
		checkThereAndBack(t, key, nonce, sample(4, n), nil)
		checkThereAndBack(t, key, nonce, sample(4, n), sample(3, n))
	}
}

// P903, P904: keys and nonces of other lengths, and both, whatever else is wrong; nothing beside the error.
func TestKeysAndNoncesOfOtherLengths(t *testing.T) {
	key, nonce := sample(1, 16), sample(2, 12)
	sealed := seal(t, key, nonce, nil, sample(3, 20))
	long := make([]byte, api.MaxBytes+17)
	check := func(key, nonce []byte) {
		t.Helper()
		for _, b := range [][]byte{sealed, nil, sealed[:15], long} {
			for _, more := range [][]byte{nil, sample(4, 5), long} {
				if x, e := gcm.Seal(key, nonce, more, b); e != api.ErrArg || len(x) != 0 {
					t.Errorf("Seal by %d bytes and %d: %d bytes, error %d", len(key), len(nonce), len(x), e)
				}
				if x, e := gcm.Open(key, nonce, more, b); e != api.ErrArg || len(x) != 0 {
					t.Errorf("Open by %d bytes and %d: %d bytes, error %d", len(key), len(nonce), len(x), e)
				}
			}
		}
	}
	for _, bad := range others(16) {
		check(bad, nonce)
		for _, worse := range others(12) {
			check(bad, worse)
		}
	}
	for _, bad := range others(12) {
		check(key, bad)
	}
}

// P903: more or text that is too long, or both; nothing beside the error.
func TestSealOfTooMuch(t *testing.T) {
	key, nonce := sample(1, 16), sample(2, 12)
	most, over, far := make([]byte, api.MaxBytes), make([]byte, api.MaxBytes+1), make([]byte, 3*api.MaxBytes)
	for _, x := range []struct{ more, text []byte }{
		{over, nil}, {nil, over}, {over, over}, {most, over}, {over, most}, {far, nil}, {nil, far}, {far, far},
	} {
		if out, e := gcm.Seal(key, nonce, x.more, x.text); e != api.ErrSize || len(out) != 0 {
			t.Errorf("%d bytes and %d more: %d bytes, error %d", len(x.text), len(x.more), len(out), e)
		}
	}
	for _, x := range []struct{ more, text []byte }{{most, nil}, {nil, most}, {most, most}} {
		seal(t, key, nonce, x.more, x.text)
	}
}

// P904: more or b that is too long, ahead of b that is too short; at the most, only what it is has weight.
func TestOpenOfTooMuch(t *testing.T) {
	key, nonce := sample(1, 16), sample(2, 12)
	most, over := sample(3, api.MaxBytes), sample(3, api.MaxBytes+1)
	sealed := seal(t, key, nonce, most, most)
	for _, x := range []struct {
		more, b []byte
		want    api.Errno
	}{
		{most, sealed, api.OK},
		{nil, sealed, api.ErrOpen},
		{nil, make([]byte, api.MaxBytes+16), api.ErrOpen},
		{most, make([]byte, api.MaxBytes+16), api.ErrOpen},
		{nil, make([]byte, api.MaxBytes+17), api.ErrSize},
		{most, append(bytes.Clone(sealed), 0), api.ErrSize},
		{over, sealed, api.ErrSize},
		{over, append(bytes.Clone(sealed), 0), api.ErrSize},
		{over, sealed[:16], api.ErrSize},
		{over, sealed[:15], api.ErrSize},
		{over, nil, api.ErrSize},
		{nil, librarySeal(t, key, nonce, nil, over), api.ErrSize},
		{over, librarySeal(t, key, nonce, over, nil), api.ErrSize},
		{nil, make([]byte, 3*api.MaxBytes), api.ErrSize},
	} {
		out, e := gcm.Open(key, nonce, x.more, x.b)
		if e != x.want || e != api.OK && len(out) != 0 || e == api.OK && !bytes.Equal(out, most) {
			t.Errorf("%d bytes and %d more: %d bytes, error %d, not %d", len(x.b), len(x.more), len(out), e, x.want)
		}
	}
}

// checkShut: Open tells nothing but ErrOpen.
func checkShut(t *testing.T, what string, key, nonce, more, b []byte) {
	t.Helper()
	if x, e := gcm.Open(key, nonce, more, b); e != api.ErrOpen || len(x) != 0 {
		t.Errorf("%s: %d bytes and %d more: %x, error %d", what, len(b), len(more), x, e)
	}
}

// P904: fewer bytes than a tag has, also where they begin one or end one.
func TestOpenOfTooFew(t *testing.T) {
	key, nonce := sample(1, 16), sample(2, 12)
	tag := seal(t, key, nonce, nil, nil)
	for n := range 16 {
		checkShut(t, "a beginning", key, nonce, nil, tag[:n])
		checkShut(t, "an end", key, nonce, nil, tag[16-n:])
		checkShut(t, "zeros", key, nonce, nil, make([]byte, n))
		checkShut(t, "zeros, and more", key, nonce, sample(3, 16), make([]byte, n))
	}
	checkShut(t, "nothing", key, nonce, nil, nil)
}

// P904, P906: each bit of what was sealed changed, of texts of whole and of broken blocks; so each of the tag's.
func TestOpenOfChangedBits(t *testing.T) {
	key, nonce := sample(1, 16), sample(2, 12)
	for _, n := range []int{0, 1, 15, 16, 17, 32, 50} {
		for _, more := range [][]byte{nil, sample(3, 21)} {
			sealed := seal(t, key, nonce, more, sample(4, n))
			for bit := range 8 * len(sealed) {
				b := bytes.Clone(sealed)
				b[bit/8] ^= 1 << (bit % 8)
				checkShut(t, "a bit changed", key, nonce, more, b)
			}
		}
	}
}

// P904: each byte changed to each other one.
func TestOpenOfChangedBytes(t *testing.T) {
	key, nonce, more := sample(1, 16), sample(2, 12), sample(3, 5)
	sealed := seal(t, key, nonce, more, sample(4, 20))
	for at := range sealed {
		for other := 1; other < 256; other++ {
			b := bytes.Clone(sealed)
			b[at] ^= byte(other)
			checkShut(t, "a byte changed", key, nonce, more, b)
		}
	}
}

// P904, P906: two places changed by the same bits, which must not take each other away.
func TestOpenOfTwoChangedBytes(t *testing.T) {
	key, nonce := sample(1, 16), sample(2, 12)
	sealed := seal(t, key, nonce, nil, sample(4, 16))
	for one := range sealed {
		for two := range one {
			b := bytes.Clone(sealed)
			b[one] ^= 0x55
			b[two] ^= 0x55
			checkShut(t, "two bytes changed", key, nonce, nil, b)
		}
	}
}

// P904: bytes cut off and put on, at both ends, zeros as well.
func TestOpenOfOtherLengths(t *testing.T) {
	key, nonce, more := sample(1, 16), sample(2, 12), sample(3, 5)
	for _, n := range []int{0, 1, 15, 16, 17, 40} {
		sealed := seal(t, key, nonce, more, make([]byte, n))
		for m := range sealed {
			checkShut(t, "cut", key, nonce, more, sealed[:m])
			checkShut(t, "begun later", key, nonce, more, sealed[m+1:])
			longer := append(bytes.Clone(sealed[:n]), make([]byte, m+1)...)
			checkShut(t, "zeros ahead of the tag", key, nonce, more, append(longer, sealed[n:]...))
		}
		checkShut(t, "a zero behind", key, nonce, more, append(bytes.Clone(sealed), 0))
		checkShut(t, "a zero ahead", key, nonce, more, append([]byte{0}, sealed...))
	}
}

// P904: each bit of the key, of the nonce and of more has weight.
func TestOpenByAnother(t *testing.T) {
	key, nonce, more := sample(1, 16), sample(2, 12), sample(3, 18)
	sealed := seal(t, key, nonce, more, sample(4, 20))
	flipped := func(b []byte, bit int) []byte {
		b = bytes.Clone(b)
		b[bit/8] ^= 1 << (bit % 8)
		return b
	}
	for bit := range 128 {
		checkShut(t, "another key", flipped(key, bit), nonce, more, sealed)
	}
	for bit := range 96 {
		checkShut(t, "another nonce", key, flipped(nonce, bit), more, sealed)
	}
	for bit := range 8 * len(more) {
		checkShut(t, "another more", key, nonce, flipped(more, bit), sealed)
	}
}

// P904: zeros behind more, and bytes that change over between more and the text, have weight, for the lengths are hashed.
func TestOpenOfOtherParts(t *testing.T) {
	key, nonce := sample(1, 16), sample(2, 12)
	sealed := seal(t, key, nonce, []byte{7}, sample(4, 16))
	hidden, tag := sealed[:16], sealed[16:]
	for n := range 33 {
		if n != 1 {
			checkShut(t, "more with zeros", key, nonce, append([]byte{7}, make([]byte, 32)...)[:n], sealed)
		}
	}
	moved := append(append([]byte{7}, make([]byte, 15)...), hidden...)
	checkShut(t, "the text as more", key, nonce, moved, tag)
	checkShut(t, "more as the text", key, nonce, nil, append(bytes.Clone(moved), tag...))
	checkShut(t, "the tag alone", key, nonce, []byte{7}, tag)
}

// P904: tags that somebody else made up: zeros, 255, the hidden text's end, and the tag of another text.
func TestOpenOfMadeUpTags(t *testing.T) {
	key, nonce := sample(1, 16), sample(2, 12)
	sealed, other := seal(t, key, nonce, nil, sample(4, 32)), seal(t, key, nonce, nil, sample(5, 32))
	for _, tag := range [][]byte{make([]byte, 16), bytes.Repeat([]byte{255}, 16), sealed[16:32], other[32:]} {
		checkShut(t, "a made-up tag", key, nonce, nil, append(bytes.Clone(sealed[:32]), tag...))
	}
	for i := range int64(300) {
		checkShut(t, "chance bytes", key, nonce, nil, sample(i, int(i%60)+16))
	}
}

// P906: of one key, nonce and more, unlike texts are sealed unlike: each bit changed, and all beginnings.
func TestUnlikeTextsAreSealedUnlike(t *testing.T) {
	key, nonce, more := sample(1, 16), sample(2, 12), sample(3, 5)
	seen := map[string][]byte{}
	add := func(text []byte) {
		t.Helper()
		sealed := string(seal(t, key, nonce, more, text))
		if old, ok := seen[sealed]; ok && !bytes.Equal(old, text) {
			t.Errorf("%x and %x", old, text)
		}
		seen[sealed] = text
	}
	for n := range 50 {
		add(make([]byte, n))
		add(sample(4, 50)[:n])
	}
	for bit := range 8 * 50 {
		text := sample(4, 50)
		text[bit/8] ^= 1 << (bit % 8)
		add(text)
	}
	for a := range 256 {
		add([]byte{byte(a)})
	}
}
