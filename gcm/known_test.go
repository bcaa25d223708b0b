package gcm_test

import (
	"bytes"
	"encoding/hex"
	"testing"
)

func fromHex(t *testing.T, s string) []byte {
	t.Helper()
	b, err := hex.DecodeString(s)
	if err != nil {
		t.Fatal(err)
	}
	return b
}

// P903: the chapter's example: nothing is sealed by zeros.
func TestExample(t *testing.T) {
	got := seal(t, make([]byte, 16), make([]byte, 12), nil, nil)
	if !bytes.HasPrefix(got, []byte{88, 226, 252, 206, 250, 126, 48, 97}) {
		t.Errorf("%v", got)
	}
}

// known: what is sealed, and as what.
type known struct{ key, nonce, more, text, hidden, tag string }

// caseText: of GCM's test case 3; case 4 has 60 bytes of it.
const caseText = "d9313225f88406e5a55909c5aff5269a86a7a9531534f7da2e4c303d8a318a721c3c0c95956809532fcf0e2449a6b525b16aedf5aa0de657ba637b391aafd255"

// caseHidden: and as what it is hidden.
const caseHidden = "42831ec2217774244b7221b784d0d49ce3aa212f2c02a4e035c17e2329aca12e21d514b25466931c7d8f6a5aac84aa051ba30b396a0aac973d58e091473f5985"

// specCases: of GCM's specification, test cases 1 to 4, and of the vectors for SP 800-38D (keys of 128 bits, nonces of 96, tags of 128).
func specCases() []known {
	zeroKey, zeroNonce := "00000000000000000000000000000000", "000000000000000000000000"
	key, nonce := "feffe9928665731c6d6a8f9467308308", "cafebabefacedbaddecaf888"
	return []known{
		{zeroKey, zeroNonce, "", "", "", "58e2fccefa7e3061367f1d57a4e7455a"},
		{zeroKey, zeroNonce, "", zeroKey, "0388dace60b6a392f328c2b971b2fe78", "ab6e47d42cec13bdf53a67b21257bddf"},
		{key, nonce, "", caseText, caseHidden, "4d5c2af327cd64a62cf35abd2ba6fab4"},
		{key, nonce, "feedfacedeadbeeffeedfacedeadbeefabaddad2", caseText[:120], caseHidden[:120], "5bc94fbc3221a5db94fae95ae7121a47"},
		{"11754cd72aec309bf52f7687212e8957", "3c819d9a9bed087615030b65", "", "", "", "250327c674aaf477aef2675748cf6971"},
		{"77be63708971c4e240d1cb79e8d77feb", "e0e00f19fed7ba0136a797f3", "7a43ec1d9c0a5a78a0b16533a6213cab", "", "", "209fcc8d3675ed938e9c7166709dd946"},
		{"7fddb57453c241d03efbed3ac44e371c", "ee283a3fc75575e33efd4887", "", "d5de42b461646c255c87bd2962d3b9a2", "2ccda4a5415cb91e135c2a0f78c9b2fd", "b36d1df9b9d5e596f83e8b7f52971cb3"},
		{"c939cc13397c1d37de6ae0e1cb7c423c", "b3d8cc017cbb89b39e0f67e2", "24825602bd12a984e0092d3e448eda5f", "c3b3c41f113a31b73d9a5cd432103069", "93fe7d9e9bfd10348a5606e5cafa7354", "0032a1dc85f1c9786925a2e71d8272dd"},
		{"fe9bb47deb3a61e423c2231841cfd1fb", "4d328eb776f500a2f7fb47aa", "", "f1cc3818e421876bb6b8bbd6c9", "b88c5c1977b35b517b0aeae967", "43fd4727fe5cdb4b5b42818dea7ef8c9"},
	}
}

// lengthCases: beginnings of cases 3 and 4: the hidden text is the beginning of the one there, so that a tag says all. The tags were made by another program.
func lengthCases() []known {
	const more = "feedfacedeadbeeffeedfacedeadbeefabaddad2"
	var out []known
	for _, x := range []struct {
		more, text int
		tag        string
	}{
		{0, 0, "3247184b3c4f69a44dbcd22887bbb418"},
		{0, 1, "1264d139d18f06ec6a7cc8941d1b1919"},
		{0, 15, "63dd999b7ba2f00765881d186da76d44"},
		{0, 16, "57926dde92a5c01ee854dc9b33ebc856"},
		{0, 17, "3003fafd6f83f2f806accaf450867d71"},
		{1, 0, "37eb18195336b2f1a87b81fe7376c528"},
		{1, 1, "39825efee364ab12312dcbfb9d4e5f3d"},
		{1, 15, "483b165c49495df93ed91e77edf22b60"},
		{1, 16, "7c74e219a04e6de0b305dff4b3be8e72"},
		{1, 17, "00cf240b2fb18012bdd721099a463db0"},
		{15, 0, "d14e5aa62b8c830a1d6fd6b07afeb99e"},
		{15, 1, "5da93aa53d5533923365784d1d077abe"},
		{15, 15, "2c1072079778c5793c91adc16dbb0ee3"},
		{15, 16, "185f86427e7ff560b14d6c4233f7abf1"},
		{15, 17, "0be0f8fbf42fe7bc535a03eb45bd55ab"},
		{16, 0, "54df474f4e71a9ef8a09bf30da7b1a92"},
		{16, 1, "c5ccab97dd02dd3955c134fe1204c44a"},
		{16, 15, "b475e335772f2bd25a35e17262b8b017"},
		{16, 16, "803a17709e281bcbd7e920f13cf41505"},
		{16, 17, "03df9e155d49a9dafb1c800761eaa8b9"},
		{17, 0, "0012c692a5c67cd4da515d96303378d9"},
		{17, 1, "dd3a496bdd85ea6b255a4295642bd6cf"},
		{17, 15, "ac8301c977a81c802aae97191497a292"},
		{17, 16, "98ccf58c9eaf2c99a772569a4adb0780"},
		{17, 17, "04974a24c0f3a82810c8ee806d618b42"},
		{20, 0, "346434fd51d5cd0c5887ec63e39b907a"},
		{20, 1, "9c04b24e54684d360d707b2618202c90"},
		{20, 15, "edbdfaecfe45bbdd0284aeaa689c58cd"},
		{20, 16, "d9f20ea917428bc48f586f2936d0fddf"},
		{20, 17, "b605d0f1deea4c237fab4f166521a235"},
	} {
		out = append(out, known{"feffe9928665731c6d6a8f9467308308", "cafebabefacedbaddecaf888", more[:2*x.more], caseText[:2*x.text], caseHidden[:2*x.text], x.tag})
	}
	return out
}

// P903, P904: what is known is sealed so, and opened.
func TestKnownCases(t *testing.T) {
	for i, k := range append(specCases(), lengthCases()...) {
		key, nonce, more, text := fromHex(t, k.key), fromHex(t, k.nonce), fromHex(t, k.more), fromHex(t, k.text)
		want := fromHex(t, k.hidden+k.tag)
		if got := seal(t, key, nonce, more, text); !bytes.Equal(got, want) {
			t.Errorf("case %d: Seal: %x, not %x", i, got, want)
		}
		if got := open(t, key, nonce, more, want); !bytes.Equal(got, text) {
			t.Errorf("case %d: Open: %x, not %x", i, got, text)
		}
	}
}
