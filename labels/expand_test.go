package labels_test

import (
	"bytes"
	"math"
	"testing"

	"synod/api"
	"synod/hkdf"
	"synod/labels"
	"synod/sha"
)

// The chapter's example.
func TestExample(t *testing.T) {
	zeros := make([]byte, 32)
	want, e := labels.Expand(zeros, "a", nil, 32)
	if got := labels.Derive(zeros, "a"); e != api.OK || len(got) != 32 || !bytes.Equal(got, want) {
		t.Errorf("%x, not %x, error %d", got, want, e)
	}
}

// P1502: what is labelled, byte by byte.
func TestExpandOfBytesWrittenOut(t *testing.T) {
	secret := sample(1, 32)
	info := []byte{0, 20, 11, 'M', 'L', 'S', ' ', '1', '.', '0', ' ', 'k', 'e', 'y', 2, 7, 9}
	want, _ := hkdf.Expand(secret, info, 20)
	if got, e := labels.Expand(secret, "key", []byte{7, 9}, 20); e != api.OK || !bytes.Equal(got, want) {
		t.Errorf("%x, not %x, error %d", got, want, e)
	}
	info = []byte{1, 2, 8, 'M', 'L', 'S', ' ', '1', '.', '0', ' ', 0}
	want, _ = hkdf.Expand(secret, info, 258)
	if got, e := labels.Expand(secret, "", nil, 258); e != api.OK || !bytes.Equal(got, want) {
		t.Errorf("%x, not %x, error %d", got, want, e)
	}
}

func checkExpand(t *testing.T, secret []byte, p pair, n int) {
	t.Helper()
	got, e := labels.Expand(secret, p.label, p.content, n)
	if want := slowExpand(t, secret, p.label, p.content, n); e != api.OK || !bytes.Equal(got, want) {
		t.Errorf("of %d, %d and %d bytes, %d: %d bytes, error %d", len(secret), len(p.label), len(p.content), n, len(got), e)
	}
}

// P1502: Expand against the words, of many labels and contexts.
func TestExpand(t *testing.T) {
	for i, p := range pairs() {
		for _, n := range []int{0, 1, 12, 16, 32, 33} {
			checkExpand(t, sample(int64(i), 32), p, n)
		}
	}
	for _, p := range longPairs() {
		checkExpand(t, sample(3, 32), p, 32)
	}
}

// P1502: Expand of all numbers of bytes at the edges.
func TestExpandOfManyBytes(t *testing.T) {
	for _, p := range []pair{{}, {"a", nil}, {"", []byte("a")}, {"exported", sample(1, 32)}} {
		for _, n := range []int{0, 1, 2, 31, 32, 33, 64, 255, 256, 257, 511, 512, 4096, 8128, 8159, 8160} {
			checkExpand(t, sample(2, 32), p, n)
		}
	}
}

// P1502: secrets of any length.
func TestExpandOfSecrets(t *testing.T) {
	for _, n := range []int{0, 1, 16, 31, 33, 63, 64, 65, 1000, api.MaxBytes + 9} {
		checkExpand(t, sample(int64(n), n), pair{"key", []byte("context")}, 40)
		want := slowExpand(t, sample(int64(n), n), "key", nil, 32)
		if got := labels.Derive(sample(int64(n), n), "key"); !bytes.Equal(got, want) {
			t.Errorf("of %d bytes: %x, not %x", n, got, want)
		}
	}
}

// P1502: numbers of bytes that may not be, also such as would be others in two bytes.
func TestExpandSize(t *testing.T) {
	for _, n := range []int{-1, -2, -32, -256, 8161, 8162, 1 << 14, 65535, 65536, 65537, 65536 + 32, 1<<32 + 32, -65536 + 32, math.MaxInt, math.MinInt, math.MinInt + 32} {
		for _, p := range []pair{{}, {"a", nil}, {"a", []byte("context")}, {string(sample(1, most)), sample(2, most)}} {
			for _, secret := range [][]byte{nil, sample(3, 32)} {
				if b, e := labels.Expand(secret, p.label, p.content, n); e != api.ErrSize || len(b) != 0 {
					t.Errorf("%d: %d bytes, error %d", n, len(b), e)
				}
			}
		}
	}
}

// P1502: the number of bytes has weight: fewer bytes are not the beginning of more.
func TestExpandOfUnlikeNumbers(t *testing.T) {
	seen := map[string]int{}
	for n := 8; n <= 600; n++ {
		b, e := labels.Expand(sample(1, 32), "key", nil, n)
		if e != api.OK || len(b) != n {
			t.Fatalf("%d: %d bytes, error %d", n, len(b), e)
		}
		if other, ok := seen[string(b[:8])]; ok {
			t.Errorf("%d begins as %d", n, other)
		}
		seen[string(b[:8])] = n
	}
}

// P1502: Derive against Expand, and the words.
func TestDerive(t *testing.T) {
	for i, p := range append(pairs(), longPairs()...) {
		secret := sample(int64(i), 32)
		want, e := labels.Expand(secret, p.label, nil, 32)
		got := labels.Derive(secret, p.label)
		if e != api.OK || len(got) != 32 || !bytes.Equal(got, want) || !bytes.Equal(got, slowExpand(t, secret, p.label, nil, 32)) {
			t.Errorf("of %d bytes: %x, not %x, error %d", len(p.label), got, want, e)
		}
	}
}

// P1502: Ref against the words: the label as it is.
func TestRef(t *testing.T) {
	want := sha.Sum256([]byte{1, 'r', 2, 'a', 'b'})
	if got := labels.Ref("r", []byte("ab")); !bytes.Equal(got, want) {
		t.Errorf("%x, not %x", got, want)
	}
	if got := labels.Ref("", nil); !bytes.Equal(got, sha.Sum256([]byte{0, 0})) {
		t.Errorf("%x", got)
	}
	for _, p := range append(pairs(), longPairs()...) {
		got := labels.Ref(p.label, p.content)
		if want := slowRef(p.label, p.content); len(got) != 32 || !bytes.Equal(got, want) {
			t.Errorf("of %d and %d bytes: %x, not %x", len(p.label), len(p.content), got, want)
		}
		if bytes.Equal(got, sha.Sum256(slowLabelled(p.label, p.content))) {
			t.Errorf("of %d and %d bytes: with the version", len(p.label), len(p.content))
		}
	}
}
