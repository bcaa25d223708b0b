package gcm_test

import (
	"bytes"
	"math/rand"
	"slices"
	"testing"

	"synod/api"
	"synod/gcm"
)

func sample(seed int64, n int) []byte {
	b := make([]byte, n)
	rand.New(rand.NewSource(seed)).Read(b)
	return b
}

// times: where it can't be refused.
func times(t *testing.T, a, b []byte) []byte {
	t.Helper()
	out, e := gcm.Times(a, b)
	if e != api.OK || len(out) != 16 {
		t.Fatalf("Times of %x and %x: %x, error %d", a, b, out, e)
	}
	return out
}

// hash: where it can't be refused.
func hash(t *testing.T, h, b []byte) []byte {
	t.Helper()
	out, e := gcm.Hash(h, b)
	if e != api.OK || len(out) != 16 {
		t.Fatalf("Hash of %d bytes by %x: %x, error %d", len(b), h, out, e)
	}
	return out
}

// seal: where it can't be refused.
func seal(t *testing.T, key, nonce, more, text []byte) []byte {
	t.Helper()
	out, e := gcm.Seal(key, nonce, more, text)
	if e != api.OK || len(out) != len(text)+16 {
		t.Fatalf("Seal of %d bytes and %d more: %d bytes, error %d", len(text), len(more), len(out), e)
	}
	return out
}

// open: where it can't be refused.
func open(t *testing.T, key, nonce, more, b []byte) []byte {
	t.Helper()
	out, e := gcm.Open(key, nonce, more, b)
	if e != api.OK || len(out) != len(b)-16 {
		t.Fatalf("Open of %d bytes and %d more: %d bytes, error %d", len(b), len(more), len(out), e)
	}
	return out
}

// call: each of the four, of four lists: Times and Hash take the first and the last.
type call func(key, nonce, more, text []byte) ([]byte, api.Errno)

func calls() map[string]call {
	return map[string]call{
		"Times": func(key, _, _, text []byte) ([]byte, api.Errno) { return gcm.Times(key, text) },
		"Hash":  func(key, _, _, text []byte) ([]byte, api.Errno) { return gcm.Hash(key, text) },
		"Seal":  gcm.Seal,
		"Open":  gcm.Open,
	}
}

// row: what a call is given.
type row struct{ key, nonce, more, text []byte }

// rows: for each call what it answers, with texts of whole and of broken blocks, and what it refuses.
func rows(t *testing.T) []row {
	key, nonce := sample(1, 16), sample(2, 12)
	out := []row{{}, {key: key}, {key, nonce[:11], nil, nil}, {key[:15], nonce, sample(3, 9), sample(4, 16)}, {key, nonce, make([]byte, api.MaxBytes+1), sample(4, 16)}}
	for _, n := range []int{0, 1, 15, 16, 17, 40} {
		more, text := sample(3, 2*n), sample(4, n)
		out = append(out, row{key, nonce, more, text}, row{key, nonce, more, seal(t, key, nonce, more, text)})
	}
	return out
}

// roomy: a copy of b with bytes behind it, which it does not count.
func roomy(b []byte) (list, whole []byte) {
	whole = append(bytes.Clone(b), sample(int64(len(b)), 100)...)
	return whole[:len(b)], whole
}

// P901: no call changes its arguments or the room behind them, nor does that room have weight; refused ones too.
func TestArgumentsAreNotChanged(t *testing.T) {
	for name, call := range calls() {
		for _, r := range rows(t) {
			want, wantE := call(r.key, r.nonce, r.more, r.text)
			var lists, wholes, before [4][]byte
			for i, b := range [][]byte{r.key, r.nonce, r.more, r.text} {
				lists[i], wholes[i] = roomy(b)
				before[i] = bytes.Clone(wholes[i])
			}
			got, e := call(lists[0], lists[1], lists[2], lists[3])
			if !slices.EqualFunc(wholes[:], before[:], bytes.Equal) {
				t.Errorf("%s of %d bytes: an argument is changed", name, len(r.text))
			}
			if !bytes.Equal(got, want) || e != wantE {
				t.Errorf("%s of %d bytes: the room behind has weight: %x, %x", name, len(r.text), got, want)
			}
		}
	}
}

// P901: all arguments parts of one memory that overlap.
func TestArgumentsInOneMemory(t *testing.T) {
	whole := sample(5, 80)
	before := bytes.Clone(whole)
	for from := range 30 {
		key, nonce, more, text := whole[5:21], whole[10:22], whole[from:from+33], whole[from+3:from+19]
		for name, call := range calls() {
			got, e := call(key, nonce, more, text)
			if !bytes.Equal(whole, before) {
				t.Fatalf("%s changes its arguments", name)
			}
			want, wantE := call(bytes.Clone(key), bytes.Clone(nonce), bytes.Clone(more), bytes.Clone(text))
			if !bytes.Equal(got, want) || e != wantE {
				t.Errorf("%s from %d: %x, not %x", name, from, got, want)
			}
		}
	}
}

// P901: what was sealed can lie in one memory with its key, its nonce and more, and is opened all the same.
func TestOpenOfOneMemory(t *testing.T) {
	whole := sample(6, 60)
	sealed := seal(t, whole[:16], whole[8:20], whole[3:30], whole[30:])
	whole = append(whole[:30:30], sealed...)
	before := bytes.Clone(whole)
	text := open(t, whole[:16], whole[8:20], whole[3:30], whole[30:])
	if !bytes.Equal(text, sample(6, 60)[30:]) || !bytes.Equal(whole, before) {
		t.Errorf("%x", text)
	}
}

func spoil(b []byte) {
	b = b[:cap(b)]
	for i := range b {
		b[i] ^= 255
	}
}

// P901: pure functions: what is answered is new memory, the room behind it too; the same again.
func TestAnswersAreNewMemory(t *testing.T) {
	for name, call := range calls() {
		for _, r := range rows(t) {
			ask := func() []byte {
				out, _ := call(r.key, r.nonce, r.more, r.text)
				return out
			}
			before := []([]byte){bytes.Clone(r.key), bytes.Clone(r.nonce), bytes.Clone(r.more), bytes.Clone(r.text)}
			one, two := ask(), ask()
			want := bytes.Clone(one)
			spoil(one)
			if !slices.EqualFunc([][]byte{r.key, r.nonce, r.more, r.text}, before, bytes.Equal) {
				t.Fatalf("%s: an answer shares memory with an argument", name)
			}
			if !bytes.Equal(two, want) || !bytes.Equal(ask(), want) {
				t.Fatalf("%s: two answers share memory", name)
			}
		}
	}
}

// P901: what is handed in is not kept, and no call has weight for another one.
func TestNothingIsKept(t *testing.T) {
	for name, call := range calls() {
		for _, r := range rows(t) {
			key, nonce, more, text := bytes.Clone(r.key), bytes.Clone(r.nonce), bytes.Clone(r.more), bytes.Clone(r.text)
			got, e := call(key, nonce, more, text)
			want := bytes.Clone(got)
			for _, b := range [][]byte{key, nonce, more, text} {
				spoil(b)
			}
			for _, other := range calls() {
				other(key, nonce, more, text)
				other(nil, nil, nil, nil)
			}
			if !bytes.Equal(got, want) {
				t.Fatalf("%s: an answer has changed", name)
			}
			if again, e2 := call(r.key, r.nonce, r.more, r.text); !bytes.Equal(again, want) || e2 != e {
				t.Fatalf("%s: another answer", name)
			}
		}
	}
}

// P901: nil and empty mean the same.
func TestNilAndEmpty(t *testing.T) {
	orEmpty := func(b []byte) []byte {
		if len(b) == 0 {
			return []byte{}
		}
		return b
	}
	orNil := func(b []byte) []byte {
		if len(b) == 0 {
			return nil
		}
		return b
	}
	for name, call := range calls() {
		for _, r := range rows(t) {
			one, e1 := call(orNil(r.key), orNil(r.nonce), orNil(r.more), orNil(r.text))
			two, e2 := call(orEmpty(r.key), orEmpty(r.nonce), orEmpty(r.more), orEmpty(r.text))
			if !bytes.Equal(one, two) || e1 != e2 {
				t.Errorf("%s of %d bytes: %x, %x", name, len(r.text), one, two)
			}
		}
	}
}
