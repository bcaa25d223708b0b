package labels_test

import (
	"bytes"
	"math"
	"testing"

	"synod/api"
	"synod/hpke"
	"synod/labels"
)

// longOnes: a label, a content, or both, longer than they may be.
func longOnes() []pair {
	var out []pair
	for _, n := range []int{most + 1, most + 7, api.MaxBytes, api.MaxBytes + 1, 2 * api.MaxBytes, 1 << 20} {
		long := sample(int64(n), n)
		out = append(out, pair{string(long), nil}, pair{"", long}, pair{"a", long}, pair{string(long), []byte("c")}, pair{string(long), long})
	}
	return append(out, pair{string(sample(1, most)), sample(2, most+1)}, pair{string(sample(1, most+1)), sample(2, most)})
}

// P1501: ErrSize of Expand, whatever n is.
func TestExpandTooLong(t *testing.T) {
	for _, p := range longOnes() {
		for _, n := range []int{0, 1, 32, 8160, -1, 8161, 65536, math.MaxInt, math.MinInt} {
			for _, secret := range [][]byte{nil, sample(1, 32)} {
				if b, e := labels.Expand(secret, p.label, p.content, n); e != api.ErrSize || len(b) != 0 {
					t.Errorf("of %d and %d bytes, %d: %d bytes, error %d", len(p.label), len(p.content), n, len(b), e)
				}
			}
		}
	}
}

// P1501: nothing of Derive and Ref.
func TestNothingOfTooLong(t *testing.T) {
	for _, p := range longOnes() {
		if b := labels.Ref(p.label, p.content); len(b) != 0 {
			t.Errorf("Ref of %d and %d bytes: %x", len(p.label), len(p.content), b)
		}
		if b := labels.Derive(sample(1, 32), p.label); len(p.label) > most != (len(b) == 0) {
			t.Errorf("Derive of %d bytes: %x", len(p.label), b)
		}
		if b := labels.Derive(nil, p.label); len(p.label) > most != (len(b) == 0) {
			t.Errorf("Derive of no secret and %d bytes: %x", len(p.label), b)
		}
	}
}

// P1501: ErrSize of Sign and Verify, also where seeds, keys and signatures have other lengths, or are none.
func TestSignTooLong(t *testing.T) {
	noPoint := append([]byte{2}, make([]byte, 31)...)
	for _, p := range longOnes() {
		for _, seed := range append(others(32), sample(1, 32)) {
			if s, e := labels.Sign(seed, p.label, p.content); e != api.ErrSize || len(s) != 0 {
				t.Errorf("a seed of %d bytes, %d and %d: %x, error %d", len(seed), len(p.label), len(p.content), s, e)
			}
		}
		for _, public := range append(others(32), noPoint, slowPublic(sample(1, 32))) {
			for _, s := range [][]byte{nil, make([]byte, 63), make([]byte, 64), slowSign(sample(1, 32), p.label, p.content)} {
				checkVerify(t, "too long", public, p.label, p.content, s, api.ErrSize)
			}
		}
	}
}

// P1501: ErrSize of Seal and Open, also where keys have other lengths, or are none, and where the text is too long.
func TestSealTooLong(t *testing.T) {
	secret, public := keyPair(1)
	good := sealed(t, 1, sample(2, 32), pair{"a", nil}, []byte("text"))
	for _, p := range longOnes() {
		for _, key := range append(others(32), make([]byte, 32), public) {
			checkNoSeal(t, key, p, []byte("text"), api.ErrSize)
			checkNoSeal(t, key, p, make([]byte, api.MaxBytes+1), api.ErrSize)
			letter{secret, p.label, p.content, key, good.b}.checkRefused(t, api.ErrSize)
			letter{key, p.label, p.content, good.enc, good.b}.checkRefused(t, api.ErrSize)
			letter{key, p.label, p.content, nil, nil}.checkRefused(t, api.ErrSize)
		}
		letter{secret, p.label, p.content, good.enc, good.b}.checkRefused(t, api.ErrSize)
	}
}

// fitting: a pair that is labelled with so many bytes, the longer part being the label, or the content.
func fitting(t *testing.T, n int, byLabel bool) pair {
	t.Helper()
	for long := n - 20; long <= n; long++ {
		p := pair{"", sample(1, long)}
		if byLabel {
			p = pair{string(sample(1, long)), nil}
		}
		if len(slowLabelled(p.label, p.content)) == n {
			return p
		}
	}
	t.Fatalf("none is labelled with %d bytes", n)
	return pair{}
}

// P1502, P1504: a label and a context may be longer than hpke's info: then it is hpke that says ErrSize, behind what it asks first (the keys), and ahead of all that it asks later.
func TestInfoOfMostBytes(t *testing.T) {
	secret, public := keyPair(1)
	for _, byLabel := range []bool{true, false} {
		p := fitting(t, api.MaxBytes, byLabel)
		sealed(t, 1, sample(2, 32), p, []byte("text")).checkOpen(t, []byte("text"))
		p = fitting(t, api.MaxBytes+1, byLabel)
		for _, p := range append(longPairs(), p) {
			info := slowLabelled(p.label, p.content)
			if _, _, e := hpke.SealTo(public, nil, info, nil, nil); e != api.ErrSize {
				t.Fatalf("hpke takes %d bytes: %d", len(info), e)
			}
			checkNoSeal(t, public, p, []byte("text"), api.ErrSize)
			checkNoSeal(t, public[:31], p, []byte("text"), api.ErrArg)
			checkNoSeal(t, make([]byte, 32), p, []byte("text"), api.ErrPoint)
			_, enc := keyPair(2)
			letter{secret, p.label, p.content, enc, nil}.checkRefused(t, api.ErrSize)
			letter{secret, p.label, p.content, enc[:31], nil}.checkRefused(t, api.ErrArg)
			letter{secret, p.label, p.content, make([]byte, 32), nil}.checkRefused(t, api.ErrPoint)
		}
	}
}

// P1501: as long as they may be, each alone and both: all other calls answer as they do of short ones.
func TestAsLongAsMayBe(t *testing.T) {
	seed := sample(1, 32)
	for _, p := range longPairs() {
		b, e := labels.Expand(seed, p.label, p.content, 48)
		if e != api.OK || !bytes.Equal(b, slowExpand(t, seed, p.label, p.content, 48)) {
			t.Errorf("Expand: %x, error %d", b, e)
		}
		s := signed(t, seed, p.label, p.content)
		checkVerify(t, "long ones", slowPublic(seed), p.label, p.content, s, api.OK)
		last := 8*len(p.label) - 1
		checkVerify(t, "the last bit of a long label", slowPublic(seed), string(flipped([]byte(p.label), last)), p.content, s, api.ErrSign)
		if last = 8*len(p.content) - 1; last > 0 {
			checkVerify(t, "the last bit of a long content", slowPublic(seed), p.label, flipped(p.content, last), s, api.ErrSign)
		}
		if len(labels.Derive(seed, p.label)) != 32 || len(labels.Ref(p.label, p.content)) != 32 {
			t.Errorf("Derive, Ref of %d and %d bytes: nothing", len(p.label), len(p.content))
		}
	}
}
