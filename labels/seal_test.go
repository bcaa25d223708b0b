package labels_test

import (
	"bytes"
	"crypto/ecdh"
	library "crypto/hpke"
	"testing"

	"synod/api"
	"synod/hpke"
	"synod/labels"
)

// letter: what Seal answered, and all that Open needs.
type letter struct {
	secret  []byte
	label   string
	context []byte
	enc, b  []byte
}

// sealed: where it can't be refused.
func sealed(t *testing.T, seed int64, ikm []byte, p pair, text []byte) letter {
	t.Helper()
	secret, public := keyPair(seed)
	enc, b, e := labels.Seal(public, ikm, p.label, p.content, text)
	if e != api.OK || len(enc) != 32 || len(b) != len(text)+16 {
		t.Fatalf("Seal of %d, %d and %d bytes: %x, %d bytes, error %d", len(p.label), len(p.content), len(text), enc, len(b), e)
	}
	return letter{secret, p.label, p.content, enc, b}
}

func (l letter) open() ([]byte, api.Errno) {
	return labels.Open(l.secret, l.label, l.context, l.enc, l.b)
}

func (l letter) checkOpen(t *testing.T, text []byte) {
	t.Helper()
	if got, e := l.open(); e != api.OK || !bytes.Equal(got, text) {
		t.Errorf("Open of %d and %d bytes: %d bytes, not %d, error %d", len(l.label), len(l.context), len(got), len(text), e)
	}
}

// checkRefused: that error and nothing beside it.
func (l letter) checkRefused(t *testing.T, want api.Errno) {
	t.Helper()
	if got, e := l.open(); e != want || len(got) != 0 {
		t.Errorf("Open by %d bytes, of %d, %d, %d and %d: %x, error %d, not %d", len(l.secret), len(l.label), len(l.context), len(l.enc), len(l.b), got, e, want)
	}
}

func checkNoSeal(t *testing.T, public []byte, p pair, text []byte, want api.Errno) {
	t.Helper()
	enc, b, e := labels.Seal(public, sample(1, 32), p.label, p.content, text)
	if e != want || len(enc) != 0 || len(b) != 0 {
		t.Errorf("Seal to %d bytes, of %d, %d and %d: %x, %d bytes, error %d, not %d", len(public), len(p.label), len(p.content), len(text), enc, len(b), e, want)
	}
}

// P1502, P1504: Seal against hpke's over the info that the words say, nothing more; what is sealed is opened, by hpke too.
func TestSeal(t *testing.T) {
	for i, p := range pairs() {
		ikm, text := sample(int64(i), i%40), sample(int64(1+i), i*3)
		l := sealed(t, int64(i), ikm, p, text)
		_, public := keyPair(int64(i))
		info := slowLabelled(p.label, p.content)
		enc, b, e := hpke.SealTo(public, ikm, info, nil, text)
		if e != api.OK || !bytes.Equal(l.enc, enc) || !bytes.Equal(l.b, b) {
			t.Errorf("%d: %x, %x, not %x, %x, error %d", i, l.enc, l.b, enc, b, e)
		}
		l.checkOpen(t, text)
		if got, e := hpke.OpenBy(l.secret, l.enc, info, nil, l.b); e != api.OK || !bytes.Equal(got, text) {
			t.Errorf("%d: hpke opens %x, not %x, error %d", i, got, text, e)
		}
	}
}

// P1502, P1504: the library opens what is sealed here.
func TestLibraryOpens(t *testing.T) {
	for i := range 20 {
		p, text := pairs()[5*i], sample(int64(i), 3*i)
		l := sealed(t, int64(i), sample(7, 32), p, text)
		key, err := library.DHKEM(ecdh.X25519()).NewPrivateKey(l.secret)
		if err != nil {
			t.Fatal(err)
		}
		receiver, err := library.NewRecipient(l.enc, key, library.HKDFSHA256(), library.AES128GCM(), slowLabelled(p.label, p.content))
		if err != nil {
			t.Fatal(err)
		}
		if got, err := receiver.Open(nil, l.b); err != nil || !bytes.Equal(got, text) {
			t.Errorf("%d: %x, not %x, %v", i, got, text, err)
		}
	}
}

// P1502, P1504: texts as long as may be, and one byte longer.
func TestSealOfMostBytes(t *testing.T) {
	p := pair{"a", []byte("c")}
	text := sample(1, api.MaxBytes)
	sealed(t, 1, nil, p, text).checkOpen(t, text)
	sealed(t, 1, nil, p, nil).checkOpen(t, nil)
	secret, public := keyPair(1)
	checkNoSeal(t, public, p, append(text, 0), api.ErrSize)
	_, enc := keyPair(2)
	letter{secret, "a", nil, enc, make([]byte, api.MaxBytes+17)}.checkRefused(t, api.ErrSize)
	letter{secret, "a", nil, enc, make([]byte, api.MaxBytes+16)}.checkRefused(t, api.ErrOpen)
}

// P1502: keys of other lengths, whatever else is wrong, and such as all would share one key by.
func TestSealRefused(t *testing.T) {
	far := make([]byte, api.MaxBytes+1)
	list := append([]pair{{}, {"a", []byte("c")}}, longPairs()...)
	for _, p := range list {
		for _, text := range [][]byte{nil, []byte("text"), far} {
			for _, bad := range others(32) {
				checkNoSeal(t, bad, p, text, api.ErrArg)
			}
			for _, bad := range smallOrder(t) {
				checkNoSeal(t, bad, p, text, api.ErrPoint)
			}
		}
	}
}

// smallOrder: publics by which everybody shares zeros.
func smallOrder(t *testing.T) [][]byte {
	t.Helper()
	return [][]byte{
		make([]byte, 32),
		fromHex(t, "0100000000000000000000000000000000000000000000000000000000000000"),
		fromHex(t, "e0eb7a7c3b41b8ae1656e3faf19fc46ada098deb9c32b1fd866205165f49b800"),
	}
}

// P1502: secrets and encs of other lengths, whatever else is wrong; encs of small order; sealed bytes that are too few.
func TestOpenRefused(t *testing.T) {
	good := sealed(t, 1, sample(2, 32), pair{"a", []byte("c")}, []byte("text"))
	for _, p := range append([]pair{{}, {"a", []byte("c")}}, longPairs()...) {
		for _, b := range [][]byte{nil, good.b, make([]byte, api.MaxBytes+17)} {
			for _, bad := range others(32) {
				letter{bad, p.label, p.content, good.enc, b}.checkRefused(t, api.ErrArg)
				letter{good.secret, p.label, p.content, bad, b}.checkRefused(t, api.ErrArg)
				letter{bad, p.label, p.content, bad, b}.checkRefused(t, api.ErrArg)
			}
			for _, bad := range smallOrder(t) {
				letter{good.secret, p.label, p.content, bad, b}.checkRefused(t, api.ErrPoint)
			}
		}
	}
	for n := range len(good.b) {
		letter{good.secret, "a", []byte("c"), good.enc, good.b[:n]}.checkRefused(t, api.ErrOpen)
	}
	good.b = append(good.b, 0)
	good.checkRefused(t, api.ErrOpen)
}

// P1502, P1503: by another secret, or with one bit of anything changed, nothing is opened.
func TestOpenChanged(t *testing.T) {
	p, text := pair{"a label", sample(2, 6)}, []byte("text")
	l := sealed(t, 1, sample(3, 32), p, text)
	l.checkOpen(t, text)
	for i := range int64(9) {
		other, _ := keyPair(100 + i)
		letter{other, l.label, l.context, l.enc, l.b}.checkRefused(t, api.ErrOpen)
	}
	for bit := range 8 * len(l.enc) {
		letter{l.secret, l.label, l.context, flipped(l.enc, bit), l.b}.checkRefused(t, api.ErrOpen)
	}
	for bit := range 8 * len(l.b) {
		letter{l.secret, l.label, l.context, l.enc, flipped(l.b, bit)}.checkRefused(t, api.ErrOpen)
	}
	for bit := range 8 * len(l.label) {
		letter{l.secret, string(flipped([]byte(l.label), bit)), l.context, l.enc, l.b}.checkRefused(t, api.ErrOpen)
	}
	for bit := range 8 * len(l.context) {
		letter{l.secret, l.label, flipped(l.context, bit), l.enc, l.b}.checkRefused(t, api.ErrOpen)
	}
}

// P1502, P1504: another text is sealed to other bytes, and opened as it was; the sealed bytes of one do not open by the enc of another.
func TestOtherTexts(t *testing.T) {
	p := pair{"a", []byte("c")}
	one, two := sealed(t, 1, []byte("one"), p, []byte("text")), sealed(t, 1, []byte("one"), p, []byte("texu"))
	if bytes.Equal(one.b, two.b) || !bytes.Equal(one.enc, two.enc) {
		t.Errorf("%x, %x", one.b, two.b)
	}
	one.checkOpen(t, []byte("text"))
	two.checkOpen(t, []byte("texu"))
	three := sealed(t, 1, []byte("three"), p, []byte("text"))
	if bytes.Equal(one.enc, three.enc) {
		t.Errorf("ikm has no weight: %x", one.enc)
	}
	three.b = one.b
	three.checkRefused(t, api.ErrOpen)
}

// P1503: other labels and contexts, also where both together are the same bytes.
func TestSealedForAnother(t *testing.T) {
	list := []pair{
		{"", nil}, {"a", nil}, {"", []byte("a")}, {"ab", nil}, {"a", []byte("b")}, {"", []byte("ab")}, {"b", []byte("a")},
		{"a\x01", []byte("b")}, {"a", []byte("\x01b")}, {"a\x01b", nil}, {"a\x00", nil}, {"a", []byte{0}}, {"MLS 1.0 a", nil},
	}
	for i, mine := range list {
		l := sealed(t, 1, sample(2, 32), mine, []byte("text"))
		for j, theirs := range list {
			l.label, l.context = theirs.label, theirs.content
			if i == j {
				l.checkOpen(t, []byte("text"))
			} else {
				l.checkRefused(t, api.ErrOpen)
			}
		}
	}
}

// P1502: what is sealed by hpke without a label, with another info, or with more, is sealed for nothing.
func TestSealedOtherwise(t *testing.T) {
	secret, public := keyPair(1)
	info := slowLabelled("a", []byte("c"))
	for _, x := range []struct{ info, more []byte }{
		{nil, nil}, {nil, info}, {info, info}, {info, []byte{0}}, {info[1:], nil}, {append(slowVector([]byte("a")), 1, 'c'), nil},
	} {
		enc, b, e := hpke.SealTo(public, sample(2, 32), x.info, x.more, []byte("text"))
		if e != api.OK {
			t.Fatal(e)
		}
		letter{secret, "a", []byte("c"), enc, b}.checkRefused(t, api.ErrOpen)
	}
}
