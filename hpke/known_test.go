package hpke_test

import (
	"bytes"
	"fmt"
	"testing"

	"synod/api"
	"synod/hpke"
)

// RFC 9180, A.1.1: DHKEM(X25519, HKDF-SHA256), HKDF-SHA256, AES-128-GCM, base mode.
const (
	vectorInfo     = "4f6465206f6e2061204772656369616e2055726e"
	vectorIkmE     = "7268600d403fce431561aef583ee1613527cff655c1343f29812e66706df3234"
	vectorIkmR     = "6db9df30aa07dd42ee5e8181afdb977e538f5e1fec8a06223f33f7013e525037"
	vectorSecretR  = "4612c550263fc8ad58375df3f557aac531d26850903e55a9f23f21d8534e8ac8"
	vectorPublicR  = "3948cfe0ad1ddb695d780e59077195da6c56506b027329794ab02bca80815c4d"
	vectorEnc      = "37fda3567bdbd628e88668c3c8d7e97d1d1253b6d4ea6d44c150f741f1bf4431"
	vectorShared   = "fe0e18c9f024ce43799ae393c7e8fe8fce9d218875e8227b0187c04e7d2ea1fc"
	vectorText     = "4265617574792069732074727574682c20747275746820626561757479"
	vectorMessages = 257
)

// vectorSealed: the messages that the vectors show, by their numbers.
func vectorSealed() map[int]string {
	return map[int]string{
		0:   "f938558b5d72f1a23810b4be2ab4f84331acc02fc97babc53a52ae8218a355a96d8770ac83d07bea87e13c512a",
		1:   "af2d7e9ac9ae7e270f46ba1f975be53c09f8d875bdc8535458c2494e8a6eab251c03d0c22a56b8ca42c2063b84",
		2:   "498dfcabd92e8acedc281e85af1cb4e3e31c7dc394a1ca20e173cb72516491588d96a19ad4a683518973dcc180",
		4:   "583bd32bc67a5994bb8ceaca813d369bca7b2a42408cddef5e22f880b631215a09fc0012bc69fccaa251c0246d",
		255: "7175db9717964058640a3a11fb9007941a5d1757fda1a6935c805c21af32505bf106deefec4a49ac38d71c9e0a",
		256: "957f9800542b0b8891badb026d79cc54597cb2d225b54c00c5238c25d05c30e3fbeda97d2e0e1aba483a2df9f2",
	}
}

// P1002: keys of the vectors of A.1: each ikm's secret and public.
func TestKnownKeys(t *testing.T) {
	for _, k := range []struct{ ikm, secret, public string }{
		{vectorIkmE, "52c4a758a802cd8b936eceea314432798d5baf2d7e9235dc084ab1b9cfa2f736", vectorEnc},
		{vectorIkmR, vectorSecretR, vectorPublicR},
		{"78628c354e46f3e169bd231be7b2ff1c77aa302460a26dbfa15515684c00130b", "463426a9ffb42bb17dbe6044b9abd1d4e4d95f9041cef0e99d7824eef2b6f588", "0ad0950d9fb9588e59690b74f1237ecdf1d775cd60be2eca57af5a4b0471c91b"},
		{"d4a09d09f575fef425905d2ab396c1449141463f698f8efdb7accfaff8995098", "c5eb01eb457fe6c6f57577c5413b931550a162c71a03ac8d196babbd4e5ce0fd", "9fed7e8c17387560e92cc6462a68049657246a09bfa8ade7aefe589672016366"},
		{"6e6d8f200ea2fb20c30b003a8b4f433d2f4ed4c2658d5bc8ce2fef718059c9f7", "ff4442ef24fbc3c1ff86375b0be1e77e88a0de1e79b30896d73411c5ff4c3518", "23fb952571a14a25e3d678140cd0e5eb47a0961bb18afcf85896e5453c312e76"},
		{"f1d4a30a4cef8d6d4e3b016e6fd3799ea057db4f345472ed302a67ce1c20cdec", "fdea67cf831f1ca98d8e27b1f6abeb5b7745e9d35348b80fa407ff6958f9137e", "1632d5c2f71c2b38d0a8fcc359355200caa8b1ffdf28618080466c909cb69b2e"},
	} {
		secret, public := derived(t, fromHex(t, k.ikm))
		if !bytes.Equal(secret, fromHex(t, k.secret)) || !bytes.Equal(public, fromHex(t, k.public)) {
			t.Errorf("of %s: %x, %x", k.ikm, secret, public)
		}
	}
}

// P1002: what is shared, from both ends.
func TestKnownShared(t *testing.T) {
	shared, enc := encap(t, fromHex(t, vectorPublicR), fromHex(t, vectorIkmE))
	if !bytes.Equal(shared, fromHex(t, vectorShared)) || !bytes.Equal(enc, fromHex(t, vectorEnc)) {
		t.Errorf("Encap: %x, %x", shared, enc)
	}
	if shared := decap(t, fromHex(t, vectorSecretR), fromHex(t, vectorEnc)); !bytes.Equal(shared, fromHex(t, vectorShared)) {
		t.Errorf("Decap: %x", shared)
	}
}

// P1003, P1005: the messages in order; the vectors' text is the same in each, and more counts them.
func TestKnownMessages(t *testing.T) {
	text, known := fromHex(t, vectorText), vectorSealed()
	sender := context(t, fromHex(t, vectorShared), fromHex(t, vectorInfo))
	receiver := context(t, fromHex(t, vectorShared), fromHex(t, vectorInfo))
	for i := range vectorMessages {
		more := fmt.Appendf(nil, "Count-%d", i)
		b := seal(t, sender, more, text)
		if want, ok := known[i]; ok && !bytes.Equal(b, fromHex(t, want)) {
			t.Errorf("message %d: %x, not %s", i, b, want)
		}
		checkOpen(t, receiver, more, b, text)
	}
}

// P1003: exported keys, the same whatever was sealed between.
func TestKnownExports(t *testing.T) {
	c := context(t, fromHex(t, vectorShared), fromHex(t, vectorInfo))
	for _, x := range []struct{ more, want string }{
		{"", "3853fe2b4035195a573ffc53856e77058e15d9ea064de3e59f4961d0095250ee"},
		{"00", "2e8f0b54673c7029649d4eb9d5e33bf1872cf76d623ff164ac185da9e88c21a5"},
		{"54657374436f6e74657874", "e9e43065102c3836401bed8c3c3c75ae46be1639869391d62c61f1ec7af54931"},
	} {
		for range 2 {
			if got := exported(t, c, fromHex(t, x.more), 32); !bytes.Equal(got, fromHex(t, x.want)) {
				t.Errorf("with more %s: %x, not %s", x.more, got, x.want)
			}
			seal(t, c, nil, nil)
		}
	}
}

// P1004: the first message, at once.
func TestKnownAtOnce(t *testing.T) {
	info, more, text := fromHex(t, vectorInfo), []byte("Count-0"), fromHex(t, vectorText)
	enc, b, e := hpke.SealTo(fromHex(t, vectorPublicR), fromHex(t, vectorIkmE), info, more, text)
	if e != api.OK || !bytes.Equal(enc, fromHex(t, vectorEnc)) || !bytes.Equal(b, fromHex(t, vectorSealed()[0])) {
		t.Fatalf("SealTo: %x, %x, error %d", enc, b, e)
	}
	if got, e := hpke.OpenBy(fromHex(t, vectorSecretR), enc, info, more, b); e != api.OK || !bytes.Equal(got, text) {
		t.Errorf("OpenBy: %x, error %d", got, e)
	}
}
