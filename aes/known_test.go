package aes_test

import (
	"bytes"
	"encoding/hex"
	"testing"
)

func fromHex(t *testing.T, s string) []byte {
	t.Helper()
	b, err := hex.DecodeString(s)
	if err != nil {
		t.Fatal(err)
	}
	return b
}

// P802: FIPS 197, appendix A.1: all round keys of a key.
func TestKnownKeys(t *testing.T) {
	const want = "2b7e151628aed2a6abf7158809cf4f3c" +
		"a0fafe1788542cb123a339392a6c7605" +
		"f2c295f27a96b9435935807a7359f67f" +
		"3d80477d4716fe3e1e237e446d7a883b" +
		"ef44a541a8525b7fb671253bdb0bad00" +
		"d4d1c6f87c839d87caf2b8bc11f915bc" +
		"6d88a37a110b3efddbf98641ca0093fd" +
		"4e54f70e5f5fc9f384a64fb24ea6dc4f" +
		"ead27321b58dbad2312bf5607f8d292f" +
		"ac7766f319fadc2128d12941575c006e" +
		"d014f9a8c9ee2589e13f0cc8b6630ca6"
	if k := keysOf(t, fromHex(t, want[:32])); !bytes.Equal(k, fromHex(t, want)) {
		t.Errorf("%x", k)
	}
}

// P802: FIPS 197, appendix C.1: the last round key of another one.
func TestKnownLastKey(t *testing.T) {
	k := keysOf(t, fromHex(t, "000102030405060708090a0b0c0d0e0f"))
	if got := hex.EncodeToString(k[160:]); got != "13111d7fe3944a17f307a78b4d2b30c5" {
		t.Errorf("%s", got)
	}
}

// P802: blocks that are known: FIPS 197, appendices B and C.1; SP 800-38A, section F.1.1; and of zeros.
func TestKnownBlocks(t *testing.T) {
	for _, x := range []struct{ key, from, to string }{
		{"2b7e151628aed2a6abf7158809cf4f3c", "3243f6a8885a308d313198a2e0370734", "3925841d02dc09fbdc118597196a0b32"},
		{"000102030405060708090a0b0c0d0e0f", "00112233445566778899aabbccddeeff", "69c4e0d86a7b0430d8cdb78070b4c55a"},
		{"2b7e151628aed2a6abf7158809cf4f3c", "6bc1bee22e409f96e93d7e117393172a", "3ad77bb40d7a3660a89ecaf32466ef97"},
		{"2b7e151628aed2a6abf7158809cf4f3c", "ae2d8a571e03ac9c9eb76fac45af8e51", "f5d3d58503b9699de785895a96fdbaaf"},
		{"2b7e151628aed2a6abf7158809cf4f3c", "30c81c46a35ce411e5fbc1191a0a52ef", "43b1cd7f598ece23881b00e3ed030688"},
		{"2b7e151628aed2a6abf7158809cf4f3c", "f69f2445df4f9b17ad2b417be66c3710", "7b0c785e27e8ad3f8223207104725dd4"},
		{"00000000000000000000000000000000", "00000000000000000000000000000000", "66e94bd4ef8a2c3b884cfa59ca342b2e"},
	} {
		key, from, to := fromHex(t, x.key), fromHex(t, x.from), fromHex(t, x.to)
		if got := block(t, key, from); !bytes.Equal(got, to) {
			t.Errorf("Block of %s by %s: %x", x.from, x.key, got)
		}
		if got := back(t, key, to); !bytes.Equal(got, from) {
			t.Errorf("Back of %s by %s: %x", x.to, x.key, got)
		}
	}
}
