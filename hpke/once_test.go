package hpke_test

import (
	"bytes"
	"testing"

	"synod/api"
	"synod/hpke"
)

// letter: what SealTo answered, and all that OpenBy needs.
type letter struct{ secret, enc, info, more, b []byte }

// sealTo: where it can't be refused.
func sealTo(t *testing.T, secret, public, ikm, info, more, text []byte) letter {
	t.Helper()
	enc, b, e := hpke.SealTo(public, ikm, info, more, text)
	if e != api.OK || len(enc) != 32 || len(b) != len(text)+16 {
		t.Fatalf("SealTo of %d bytes: %x, %d bytes, error %d", len(text), enc, len(b), e)
	}
	return letter{secret, enc, info, more, b}
}

func (l letter) open() ([]byte, api.Errno) {
	return hpke.OpenBy(l.secret, l.enc, l.info, l.more, l.b)
}

// checkRefused: that error and nothing beside it.
func (l letter) checkRefused(t *testing.T, want api.Errno) {
	t.Helper()
	if x, e := l.open(); e != want || len(x) != 0 {
		t.Errorf("OpenBy %d bytes, of %d, %d, %d and %d: %x, error %d, not %d", len(l.secret), len(l.enc), len(l.info), len(l.more), len(l.b), x, e, want)
	}
}

// P1004, P1005: at once is as step by step, and what is sealed to a key is opened by its secret.
func TestAtOnce(t *testing.T) {
	for i, ikm := range ikms() {
		secret, public := derived(t, sample(int64(i), 32))
		info, more, text := sample(int64(1+i), i*5), sample(int64(2+i), i*3), sample(int64(3+i), i*7)
		l := sealTo(t, secret, public, ikm, info, more, text)
		shared, enc := encap(t, public, ikm)
		if b := seal(t, context(t, shared, info), more, text); !bytes.Equal(l.enc, enc) || !bytes.Equal(l.b, b) {
			t.Errorf("%d: %x, %x, not %x, %x", i, l.enc, l.b, enc, b)
		}
		if got, e := l.open(); e != api.OK || !bytes.Equal(got, text) {
			t.Errorf("%d: %x, not %x, error %d", i, got, text, e)
		}
		checkOpen(t, context(t, decap(t, secret, l.enc), info), more, l.b, text)
	}
}

// P1004: as much as may be.
func TestAtOnceOfMostBytes(t *testing.T) {
	secret, public := derived(t, []byte("most"))
	most := sample(1, api.MaxBytes)
	l := sealTo(t, secret, public, most, most, most, most)
	if got, e := l.open(); e != api.OK || !bytes.Equal(got, most) {
		t.Errorf("%d bytes, error %d", len(got), e)
	}
}

// P1004: of SealTo the first error: Encap's ahead of New's and Seal's; nothing beside it.
func TestSealToRefused(t *testing.T) {
	_, public := derived(t, sample(1, 32))
	over := make([]byte, api.MaxBytes+1)
	check := func(public, info, more, text []byte, want api.Errno) {
		t.Helper()
		enc, b, e := hpke.SealTo(public, sample(2, 32), info, more, text)
		if e != want || len(enc) != 0 || len(b) != 0 {
			t.Errorf("to %d bytes, of %d, %d and %d: %x, %d bytes, error %d, not %d", len(public), len(info), len(more), len(text), enc, len(b), e, want)
		}
	}
	for _, x := range []struct{ info, more, text []byte }{{}, {over, nil, nil}, {nil, over, nil}, {nil, nil, over}, {over, over, over}} {
		for _, bad := range others(32) {
			check(bad, x.info, x.more, x.text, api.ErrArg)
		}
		for _, p := range smallOrder(t) {
			check(p, x.info, x.more, x.text, api.ErrPoint)
		}
		if len(x.info)+len(x.more)+len(x.text) > 0 {
			check(public, x.info, x.more, x.text, api.ErrSize)
		}
	}
}

// P1004: of OpenBy the first error: Decap's ahead of New's, and that ahead of Open's; nothing beside it.
func TestOpenByRefused(t *testing.T) {
	secret, public := derived(t, sample(1, 32))
	good := sealTo(t, secret, public, sample(2, 32), nil, nil, sample(3, 20))
	over, far := make([]byte, api.MaxBytes+1), make([]byte, api.MaxBytes+17)
	for _, x := range []struct {
		info, more, b []byte
		want          api.Errno
	}{
		{nil, nil, good.b, api.OK},
		{nil, nil, nil, api.ErrOpen},
		{nil, nil, good.b[:15], api.ErrOpen},
		{nil, nil, far[:api.MaxBytes+16], api.ErrOpen},
		{nil, nil, far, api.ErrSize},
		{nil, over, good.b, api.ErrSize},
		{nil, over, nil, api.ErrSize},
		{over, nil, good.b, api.ErrSize},
		{over, nil, nil, api.ErrSize},
		{over, over, far, api.ErrSize},
	} {
		l := letter{secret, good.enc, x.info, x.more, x.b}
		if x.want != api.OK {
			l.checkRefused(t, x.want)
		}
		for _, p := range smallOrder(t) {
			letter{secret, p, x.info, x.more, x.b}.checkRefused(t, api.ErrPoint)
			letter{secret[:31], p, x.info, x.more, x.b}.checkRefused(t, api.ErrArg)
		}
		for _, bad := range others(32) {
			letter{bad, good.enc, x.info, x.more, x.b}.checkRefused(t, api.ErrArg)
			letter{secret, bad, x.info, x.more, x.b}.checkRefused(t, api.ErrArg)
			letter{bad, bad, x.info, x.more, x.b}.checkRefused(t, api.ErrArg)
		}
	}
}

// P1007: by another secret, with another info or more, or a bit changed, nothing is opened.
func TestOpenByAnotherAtOnce(t *testing.T) {
	secret, public := derived(t, sample(1, 32))
	info, more := sample(3, 6), sample(4, 6)
	l := sealTo(t, secret, public, sample(2, 32), info, more, sample(5, 10))
	for i := range int64(50) {
		other, _ := derived(t, sample(100+i, 32))
		letter{other, l.enc, info, more, l.b}.checkRefused(t, api.ErrOpen)
	}
	for bit := 3; bit < 254; bit++ { // the others are clamped
		letter{flipped(secret, bit), l.enc, info, more, l.b}.checkRefused(t, api.ErrOpen)
	}
	for bit := range 256 {
		letter{secret, flipped(l.enc, bit), info, more, l.b}.checkRefused(t, api.ErrOpen)
	}
	for bit := range 48 {
		letter{secret, l.enc, flipped(info, bit), more, l.b}.checkRefused(t, api.ErrOpen)
		letter{secret, l.enc, info, flipped(more, bit), l.b}.checkRefused(t, api.ErrOpen)
	}
	for bit := range 8 * len(l.b) {
		letter{secret, l.enc, info, more, flipped(l.b, bit)}.checkRefused(t, api.ErrOpen)
	}
	letter{secret, l.enc, more, info, l.b}.checkRefused(t, api.ErrOpen)
	letter{secret, l.enc, nil, more, l.b}.checkRefused(t, api.ErrOpen)
	letter{secret, l.enc, info, nil, l.b}.checkRefused(t, api.ErrOpen)
	letter{secret, l.enc, append(bytes.Clone(info), more...), nil, l.b}.checkRefused(t, api.ErrOpen)
	letter{secret, l.enc, nil, append(bytes.Clone(info), more...), l.b}.checkRefused(t, api.ErrOpen)
}

// P1007: two who were sealed the same open each their own alone.
func TestOnlyItsOwnSecret(t *testing.T) {
	var letters []letter
	for i := range int64(6) {
		secret, public := derived(t, sample(i, 32))
		letters = append(letters, sealTo(t, secret, public, []byte("one ikm"), nil, nil, []byte("one text")))
	}
	for i, mine := range letters {
		for j, theirs := range letters {
			theirs.secret = mine.secret
			if i != j {
				theirs.checkRefused(t, api.ErrOpen)
			} else if got, e := theirs.open(); e != api.OK || string(got) != "one text" {
				t.Errorf("%d: %q, error %d", i, got, e)
			}
		}
	}
}
