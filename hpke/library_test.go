package hpke_test

import (
	"bytes"
	"crypto/ecdh"
	library "crypto/hpke"
	"testing"
	"testing/cryptotest"

	"synod/api"
	"synod/hpke"
)

func libraryKem() library.KEM { return library.DHKEM(ecdh.X25519()) }

// libraryKey: of a secret.
func libraryKey(t *testing.T, secret []byte) library.PrivateKey {
	t.Helper()
	k, err := libraryKem().NewPrivateKey(secret)
	if err != nil {
		t.Fatal(err)
	}
	return k
}

// P1002: Derive against the library's.
func TestDeriveAgainstLibrary(t *testing.T) {
	for _, ikm := range ikms() {
		k, err := libraryKem().DeriveKeyPair(ikm)
		if err != nil {
			t.Fatal(err)
		}
		if _, public := derived(t, ikm); !bytes.Equal(public, k.PublicKey().Bytes()) {
			t.Errorf("of %d bytes: %x", len(ikm), public)
		}
	}
}

// P1002, P1003, P1005: what is sealed here the library opens, message by message, and exports the same.
func TestLibraryReceives(t *testing.T) {
	for i := range int64(10) {
		secret, public := derived(t, sample(i, 32))
		info := sample(10+i, int(i)*9)
		shared, enc := encap(t, public, sample(20+i, int(i)*5))
		sender := context(t, shared, info)
		receiver, err := library.NewRecipient(enc, libraryKey(t, secret), library.HKDFSHA256(), library.AES128GCM(), info)
		if err != nil {
			t.Fatal(err)
		}
		for j := range 300 {
			more, text := sample(int64(j), j%20), sample(int64(j), j%33)
			if got, err := receiver.Open(more, seal(t, sender, more, text)); err != nil || !bytes.Equal(got, text) {
				t.Fatalf("message %d: %x, %v", j, got, err)
			}
		}
		want, err := receiver.Export("what for", 100)
		if got := exported(t, sender, []byte("what for"), 100); err != nil || !bytes.Equal(got, want) {
			t.Errorf("%x, not %x, %v", got, want, err)
		}
	}
}

// P1002, P1003, P1004, P1005: what the library seals is opened here, message by message, the first one at once.
func TestLibrarySends(t *testing.T) {
	cryptotest.SetGlobalRandom(t, 1)
	for i := range int64(10) {
		secret, _ := derived(t, sample(i, 32))
		info := sample(10+i, int(i)*9)
		enc, sender, err := library.NewSender(libraryKey(t, secret).PublicKey(), library.HKDFSHA256(), library.AES128GCM(), info)
		if err != nil {
			t.Fatal(err)
		}
		receiver := context(t, decap(t, secret, enc), info)
		for j := range 300 {
			more, text := sample(int64(j), j%20), sample(int64(j), j%33)
			b, err := sender.Seal(more, text)
			if err != nil {
				t.Fatal(err)
			}
			checkOpen(t, receiver, more, b, text)
			if j > 0 {
				continue
			}
			if got, e := hpke.OpenBy(secret, enc, info, more, b); e != api.OK || !bytes.Equal(got, text) {
				t.Fatalf("at once: %x, error %d", got, e)
			}
		}
	}
}
