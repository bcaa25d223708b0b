package hpke_test

import (
	"bytes"
	"testing"

	"synod/api"
	"synod/hpke"
	"synod/ladder"
)

// P1002: Derive of all lengths, and its public is the secret's own.
func TestDerive(t *testing.T) {
	for _, ikm := range ikms() {
		secret, public := derived(t, ikm)
		want := slowSecret(t, ikm)
		if !bytes.Equal(secret, want.Bytes()) || !bytes.Equal(public, want.PublicKey().Bytes()) {
			t.Errorf("of %d bytes: %x, %x", len(ikm), secret, public)
		}
		if p, e := ladder.Public(secret); e != api.OK || !bytes.Equal(p, public) {
			t.Errorf("of %d bytes: Public of the secret: %x, not %x", len(ikm), p, public)
		}
	}
}

// P1002: each byte of ikm has weight, and so has each zero behind it.
func TestDeriveOfUnlikeBytes(t *testing.T) {
	seen := map[string]int{}
	add := func(ikm []byte) {
		t.Helper()
		secret, _ := derived(t, ikm)
		if n, ok := seen[string(secret)]; ok {
			t.Errorf("of %d bytes and of %d: the same", n, len(ikm))
		}
		seen[string(secret)] = len(ikm)
	}
	for n := range 70 {
		add(make([]byte, n))
	}
	for bit := range 256 {
		add(flipped(sample(1, 32), bit))
	}
}

// P1002, P1006: both ends share the same, which is what the chapter's words say.
func TestEncapAndDecap(t *testing.T) {
	for i, ikm := range ikms() {
		secret, public := derived(t, sample(int64(100+i), 1+3*i))
		shared, enc := encap(t, public, ikm)
		if _, want := derived(t, ikm); !bytes.Equal(enc, want) {
			t.Errorf("%d: enc is %x, not %x", i, enc, want)
		}
		if want := slowShared(t, slowSecret(t, ikm), public, enc, public); !bytes.Equal(shared, want) {
			t.Errorf("%d: Encap: %x, not %x", i, shared, want)
		}
		if got := decap(t, secret, enc); !bytes.Equal(got, shared) {
			t.Errorf("%d: Decap: %x, not %x", i, got, shared)
		}
	}
}

// P1002, P1006: secrets that nobody derived: edges, clamped or not; the public that goes in is the secret's own.
func TestDecapOfAnySecret(t *testing.T) {
	secrets := [][]byte{make([]byte, 32), bytes.Repeat([]byte{1}, 32), bytes.Repeat([]byte{255}, 32)}
	for i := range int64(20) {
		secrets = append(secrets, sample(i, 32))
	}
	for i, secret := range secrets {
		public := slowKey(t, secret).PublicKey().Bytes()
		shared, enc := encap(t, public, sample(int64(50+i), 32))
		if want := slowShared(t, slowKey(t, secret), enc, enc, public); !bytes.Equal(shared, want) {
			t.Errorf("by %x: Encap: %x, not %x", secret, shared, want)
		}
		if got := decap(t, secret, enc); !bytes.Equal(got, shared) {
			t.Errorf("by %x: Decap: %x, not %x", secret, got, shared)
		}
	}
}

// P1002: publics and encs as they were given go in, with the highest bit and not canonical as well.
func TestPublicsAsTheyWereGiven(t *testing.T) {
	ikm, secret := sample(1, 32), sample(2, 32)
	own := slowKey(t, secret).PublicKey().Bytes()
	lists := [][]byte{append([]byte{240}, append(bytes.Repeat([]byte{255}, 30), 127)...), bytes.Repeat([]byte{255}, 32), append([]byte{9}, make([]byte, 31)...)}
	for i := range int64(10) {
		lists = append(lists, sample(i, 32))
	}
	for _, b := range lists {
		for _, b := range [][]byte{b, flipped(b, 255)} {
			shared, enc := encap(t, b, ikm)
			if want := slowShared(t, slowSecret(t, ikm), b, enc, b); !bytes.Equal(shared, want) {
				t.Errorf("Encap of %x: %x, not %x", b, shared, want)
			}
			if got, want := decap(t, secret, b), slowShared(t, slowKey(t, secret), b, b, own); !bytes.Equal(got, want) {
				t.Errorf("Decap of %x: %x, not %x", b, got, want)
			}
		}
	}
}

// checkNoEncap: that error and nothing beside it.
func checkNoEncap(t *testing.T, public, ikm []byte, want api.Errno) {
	t.Helper()
	if shared, enc, e := hpke.Encap(public, ikm); e != want || len(shared) != 0 || len(enc) != 0 {
		t.Errorf("Encap of %d bytes: %x, %x, error %d, not %d", len(public), shared, enc, e, want)
	}
}

// checkNoDecap: that error and nothing beside it.
func checkNoDecap(t *testing.T, secret, enc []byte, want api.Errno) {
	t.Helper()
	if shared, e := hpke.Decap(secret, enc); e != want || len(shared) != 0 {
		t.Errorf("Decap by %d bytes of %d: %x, error %d, not %d", len(secret), len(enc), shared, e, want)
	}
}

// P1002: keys of other lengths.
func TestKeysOfOtherLengths(t *testing.T) {
	secret, public := derived(t, sample(1, 32))
	lists := append(others(32), secret[:31], public[:31], append(bytes.Clone(public), 0))
	for _, bad := range lists {
		for _, ikm := range [][]byte{nil, {1}, sample(2, 32)} {
			checkNoEncap(t, bad, ikm, api.ErrArg)
		}
		checkNoDecap(t, bad, public, api.ErrArg)
		checkNoDecap(t, secret, bad, api.ErrArg)
		for _, worse := range lists {
			checkNoDecap(t, bad, worse, api.ErrArg)
		}
	}
}

// P1002: points of small order, of which a key of another length is named first.
func TestPointsOfSmallOrder(t *testing.T) {
	for _, p := range smallOrder(t) {
		for i := range int64(5) {
			checkNoEncap(t, p, sample(i, int(i)*16), api.ErrPoint)
			checkNoDecap(t, sample(i, 32), p, api.ErrPoint)
		}
		checkNoDecap(t, make([]byte, 32), p, api.ErrPoint)
		checkNoDecap(t, p, p, api.ErrPoint)
		checkNoDecap(t, make([]byte, 31), p, api.ErrArg)
		checkNoDecap(t, nil, p, api.ErrArg)
	}
}

// P1002, P1007: another secret, enc, public or ikm: another key is shared.
func TestUnlikeShareds(t *testing.T) {
	secret, public := derived(t, sample(1, 32))
	shared, enc := encap(t, public, sample(2, 32))
	seen := map[string]string{string(shared): "the first"}
	add := func(what string, shared []byte) {
		t.Helper()
		if old, ok := seen[string(shared)]; ok {
			t.Errorf("%s and %s: the same", what, old)
		}
		seen[string(shared)] = what
	}
	for bit := 3; bit < 254; bit++ { // the others are clamped
		add("another secret", decap(t, flipped(secret, bit), enc))
	}
	for bit := range 256 {
		add("another enc", decap(t, secret, flipped(enc, bit)))
		other, _ := encap(t, public, flipped(sample(2, 32), bit))
		add("another ikm", other)
		other, _ = encap(t, flipped(public, bit), sample(2, 32))
		add("another public", other)
	}
}
