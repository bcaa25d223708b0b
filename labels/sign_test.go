package labels_test

import (
	"bytes"
	"slices"
	"testing"

	"synod/api"
	"synod/labels"
	"synod/sign"
)

// signed: where it can't be refused.
func signed(t *testing.T, seed []byte, label string, content []byte) []byte {
	t.Helper()
	s, e := labels.Sign(seed, label, content)
	if e != api.OK || len(s) != 64 {
		t.Fatalf("Sign of %d and %d bytes: %x, error %d", len(label), len(content), s, e)
	}
	return s
}

func checkVerify(t *testing.T, what string, public []byte, label string, content, signature []byte, want api.Errno) {
	t.Helper()
	if e := labels.Verify(public, label, content, signature); e != want {
		t.Errorf("%s: of %d, %d, %d and %d bytes: %d, not %d", what, len(public), len(label), len(content), len(signature), e, want)
	}
}

// P1502, P1504: Sign against sign's and the library's over what the words say, and what is signed is verified.
func TestSign(t *testing.T) {
	for i, p := range append(pairs(), longPairs()...) {
		seed := sample(int64(i), 32)
		s := signed(t, seed, p.label, p.content)
		if want := slowSign(seed, p.label, p.content); !bytes.Equal(s, want) {
			t.Errorf("of %d and %d bytes: %x, not the library's %x", len(p.label), len(p.content), s, want)
		}
		if want, e := sign.Sign(seed, slowLabelled(p.label, p.content)); e != api.OK || !bytes.Equal(s, want) {
			t.Errorf("of %d and %d bytes: %x, not %x, error %d", len(p.label), len(p.content), s, want, e)
		}
		checkVerify(t, "what is signed", slowPublic(seed), p.label, p.content, s, api.OK)
	}
}

// P1502: seeds of other lengths.
func TestSignOtherLengths(t *testing.T) {
	for _, bad := range others(32) {
		for _, p := range append([]pair{{}, {"a", []byte("x")}}, longPairs()...) {
			if s, e := labels.Sign(bad, p.label, p.content); e != api.ErrArg || len(s) != 0 {
				t.Errorf("a seed of %d bytes: %x, error %d", len(bad), s, e)
			}
		}
	}
}

// P1502: public keys and signatures of other lengths; keys that are no point.
func TestVerifyRefused(t *testing.T) {
	seed := sample(1, 32)
	public, s := slowPublic(seed), signed(t, seed, "a", []byte("x"))
	noPoint := append([]byte{2}, make([]byte, 31)...)
	for _, bad := range others(32) {
		checkVerify(t, "a public key of another length", bad, "a", []byte("x"), s, api.ErrArg)
		checkVerify(t, "both of other lengths", bad, "a", []byte("x"), nil, api.ErrArg)
	}
	for _, bad := range others(64) {
		checkVerify(t, "a signature of another length", public, "a", []byte("x"), bad, api.ErrArg)
		checkVerify(t, "a signature of another length", noPoint, "a", []byte("x"), bad, api.ErrArg)
	}
	checkVerify(t, "no point", noPoint, "a", []byte("x"), s, api.ErrPoint)
	checkVerify(t, "no point", noPoint, "b", nil, make([]byte, 64), api.ErrPoint)
	checkVerify(t, "zeros", public, "a", []byte("x"), make([]byte, 64), api.ErrSign)
	checkVerify(t, "both halves swapped", public, "a", []byte("x"), slices.Concat(s[32:], s[:32]), api.ErrSign)
}

// P1502, P1503: each bit of a signature, of a label and of a content; another key.
func TestChanged(t *testing.T) {
	seed, label, content := sample(1, 32), "a label", sample(2, 9)
	public, s := slowPublic(seed), signed(t, seed, label, content)
	for bit := range 8 * len(s) {
		checkVerify(t, "a bit of the signature", public, label, content, flipped(s, bit), api.ErrSign)
	}
	for bit := range 8 * len(label) {
		checkVerify(t, "a bit of the label", public, string(flipped([]byte(label), bit)), content, s, api.ErrSign)
	}
	for bit := range 8 * len(content) {
		checkVerify(t, "a bit of the content", public, label, flipped(content, bit), s, api.ErrSign)
	}
	for i := range int64(9) {
		checkVerify(t, "another key", slowPublic(sample(100+i, 32)), label, content, s, api.ErrSign)
	}
}

// P1502: Verify against sign's, whatever comes of it.
func TestVerifyAgainstSign(t *testing.T) {
	count := map[api.Errno]int{}
	for i := range int64(100) {
		seed, p := sample(i/2, 32), pairs()[i%20]
		public, s := slowPublic(seed), slowSign(seed, p.label, p.content)
		for _, x := range []struct{ public, s []byte }{
			{public, s}, {flipped(public, int(i)), s}, {public, flipped(s, int(5*i))}, {public[:i%33%32], s}, {public, s[:i%64]}, {sample(i, 32), sample(i, 64)},
		} {
			want := sign.Verify(x.public, slowLabelled(p.label, p.content), x.s)
			checkVerify(t, "as sign says", x.public, p.label, p.content, x.s, want)
			count[want]++
		}
	}
	if count[api.OK] < 100 || count[api.ErrArg] < 100 || count[api.ErrPoint] < 20 || count[api.ErrSign] < 100 {
		t.Errorf("%v", count)
	}
}

// P1502, P1503: what is signed without a label, or with one but not the version, is signed for nothing; nor is what is labelled a text of its own kind.
func TestSignedOtherwise(t *testing.T) {
	seed, label, content := sample(1, 32), "a", []byte("x")
	public := slowPublic(seed)
	for _, text := range [][]byte{
		nil, content, []byte("a"), []byte("ax"), []byte("MLS 1.0 ax"),
		slices.Concat(slowVector([]byte("a")), slowVector(content)),
		slices.Concat([]byte("MLS 1.0 a"), slowVector(content)),
		slices.Concat(slowVector([]byte("MLS 1.0 a")), content),
		slices.Concat(slowVector([]byte("MLS 1.0 ")), slowVector([]byte("a")), slowVector(content)),
		slices.Concat(slowVector(content), slowVector([]byte("MLS 1.0 a"))),
		append(slowLabelled(label, content), 0),
		slowLabelled("mls 1.0 a", content),
	} {
		s, e := sign.Sign(seed, text)
		if e != api.OK {
			t.Fatal(e)
		}
		checkVerify(t, "signed otherwise", public, label, content, s, api.ErrSign)
	}
}

// P1503: other labels and contents, also where both together are the same bytes.
func TestSignedForAnother(t *testing.T) {
	seed := sample(1, 32)
	public := slowPublic(seed)
	list := []pair{
		{"", nil}, {"a", nil}, {"", []byte("a")}, {"ab", nil}, {"a", []byte("b")}, {"", []byte("ab")}, {"b", []byte("a")}, {"A", []byte("b")},
		{"a\x01", []byte("b")}, {"a", []byte("\x01b")}, {"a\x01b", nil}, {"a\x00", nil}, {"a", []byte{0}}, {"a ", nil}, {" a", nil},
		{"MLS 1.0 ", nil}, {"MLS 1.0 a", nil}, {"", []byte("MLS 1.0 a")},
	}
	for i, mine := range list {
		s := signed(t, seed, mine.label, mine.content)
		for j, theirs := range list {
			want := api.ErrSign
			if i == j {
				want = api.OK
			}
			checkVerify(t, "for another one", public, theirs.label, theirs.content, s, want)
		}
	}
}
