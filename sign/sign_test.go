package sign_test

import (
	"bytes"
	"crypto/ed25519"
	"math/rand"
	"slices"
	"testing"

	"synod/api"
	"synod/sign"
)

func sample(seed int64, n int) []byte {
	b := make([]byte, n)
	rand.New(rand.NewSource(seed)).Read(b)
	return b
}

// public: where it can't be refused.
func public(t *testing.T, seed []byte) []byte {
	t.Helper()
	p, e := sign.Public(seed)
	if e != api.OK || len(p) != 32 {
		t.Fatalf("Public of %x: %x, error %d", seed, p, e)
	}
	return p
}

// signed: where it can't be refused.
func signed(t *testing.T, seed, text []byte) []byte {
	t.Helper()
	s, e := sign.Sign(seed, text)
	if e != api.OK || len(s) != 64 {
		t.Fatalf("Sign by %x: %x, error %d", seed, s, e)
	}
	return s
}

// seeds: edges and chance ones.
func seeds() [][]byte {
	out := [][]byte{make([]byte, 32), bytes.Repeat([]byte{1}, 32), bytes.Repeat([]byte{255}, 32)}
	for i := range int64(20) {
		out = append(out, sample(i, 32))
	}
	return out
}

// lengths: of texts: none, the edges of a hash's blocks with the text alone, behind a prefix and behind two points, and long ones.
func lengths() []int {
	out := []int{0, 1, 2, 31, 32, 33, 1000, 4096, 5000, api.MaxBytes, api.MaxBytes + 1}
	for _, edge := range []int{111, 127, 239, 255} {
		for _, ahead := range []int{0, 32, 64} {
			for d := -1; d <= 2; d++ {
				out = append(out, edge-ahead+d)
			}
		}
	}
	return out
}

// otherLengths: those that neither a seed, nor a public key, nor a signature has.
func otherLengths() []int {
	return []int{0, 1, 31, 33, 63, 65, 96, 128, 256, 288, api.MaxBytes, api.MaxBytes + 32, api.MaxBytes + 64}
}

// P702: the chapter's example.
func TestExample(t *testing.T) {
	if p := public(t, make([]byte, 32)); !bytes.Equal(p[:4], []byte{59, 106, 39, 188}) {
		t.Errorf("%v", p)
	}
}

// P701: seeds of other lengths; nothing beside the error.
func TestSeedsOfOtherLengths(t *testing.T) {
	lists := [][]byte{nil, {}, bytes.Repeat([]byte{7}, 64)}
	for _, n := range otherLengths() {
		lists = append(lists, make([]byte, n), sample(1, n))
	}
	good := sample(1, 32)
	lists = append(lists, good[:31], append(bytes.Clone(good), 0))
	for _, seed := range lists {
		if p, e := sign.Public(seed); e != api.ErrArg || len(p) != 0 {
			t.Errorf("Public of %d bytes: %x, error %d", len(seed), p, e)
		}
		for _, text := range [][]byte{nil, []byte("a"), sample(2, 500)} {
			if s, e := sign.Sign(seed, text); e != api.ErrArg || len(s) != 0 {
				t.Errorf("Sign by %d bytes: %x, error %d", len(seed), s, e)
			}
		}
	}
}

// P702: against the library's.
func TestPublic(t *testing.T) {
	for _, seed := range seeds() {
		if p := public(t, seed); !bytes.Equal(p, ed25519.NewKeyFromSeed(seed)[32:]) {
			t.Errorf("of %x: %x", seed, p)
		}
	}
}

// P703, P705: texts of all lengths that are edges, against the library's; what is signed is verified.
func TestSignTexts(t *testing.T) {
	for i, n := range lengths() {
		seed := sample(int64(i), 32)
		key, p := ed25519.NewKeyFromSeed(seed), public(t, seed)
		for _, text := range [][]byte{make([]byte, n), sample(int64(n), n), bytes.Repeat([]byte{255}, n)} {
			s := signed(t, seed, text)
			if !bytes.Equal(s, ed25519.Sign(key, text)) {
				t.Fatalf("%d bytes by %x: %x", n, seed, s)
			}
			if e := sign.Verify(p, text, s); e != api.OK {
				t.Fatalf("%d bytes by %x: Verify %d", n, seed, e)
			}
		}
	}
}

// P703, P705: many keys, against the library's.
func TestSignKeys(t *testing.T) {
	for i, seed := range seeds() {
		text := sample(int64(i), 3*i)
		s := signed(t, seed, text)
		if !bytes.Equal(s, ed25519.Sign(ed25519.NewKeyFromSeed(seed), text)) {
			t.Fatalf("by %x: %x", seed, s)
		}
		if e := sign.Verify(public(t, seed), text, s); e != api.OK {
			t.Fatalf("by %x: Verify %d", seed, e)
		}
	}
}

// P701: nil and empty texts mean the same.
func TestEmptyTexts(t *testing.T) {
	seed := sample(1, 32)
	p, s := public(t, seed), signed(t, seed, nil)
	room := []byte("room")
	for _, text := range [][]byte{nil, {}, room[:0]} {
		if !bytes.Equal(signed(t, seed, text), s) || sign.Verify(p, text, s) != api.OK {
			t.Error("another signature of nothing")
		}
	}
	if e := sign.Verify(p, room, s); e != api.ErrSign {
		t.Errorf("of some bytes: %d", e)
	}
}

// roomy: a copy of b with bytes behind it, which it does not count.
func roomy(b []byte) (list, whole []byte) {
	whole = append(bytes.Clone(b), sample(int64(len(b)), 200)...)
	return whole[:len(b)], whole
}

// P701: no call changes its arguments or the room behind them, nor does that room have weight; refused ones too.
func TestArgumentsAreNotChanged(t *testing.T) {
	seed, text := sample(1, 32), sample(2, 300)
	p, s := public(t, seed), signed(t, seed, text)
	bad := bytes.Clone(s)
	bad[40] ^= 1
	noPoint := append([]byte{2}, make([]byte, 31)...)
	for _, x := range []struct {
		seed, text, public, signature []byte
		want                          api.Errno
	}{
		{seed, text, p, s, api.OK},
		{seed[:31], text[:299], p, s, api.ErrSign},
		{seed[:31], text, p, bad, api.ErrSign},
		{seed[:31], text, noPoint, s, api.ErrPoint},
		{seed[:31], text, p[:31], s, api.ErrArg},
		{seed[:31], text, p, s[:63], api.ErrArg},
		{nil, nil, nil, nil, api.ErrArg},
	} {
		var lists, wholes, before [][]byte
		for _, b := range [][]byte{x.seed, x.text, x.public, x.signature} {
			list, whole := roomy(b)
			lists, wholes, before = append(lists, list), append(wholes, whole), append(before, bytes.Clone(whole))
		}
		gotP, e1 := sign.Public(lists[0])
		gotS, e2 := sign.Sign(lists[0], lists[1])
		if got := sign.Verify(lists[2], lists[1], lists[3]); got != x.want {
			t.Errorf("Verify: %d, not %d", got, x.want)
		}
		if len(x.seed) == 32 && (!bytes.Equal(gotP, p) || !bytes.Equal(gotS, s)) || e1 != e2 {
			t.Errorf("the room behind has weight: %x, %x", gotP, gotS)
		}
		if !slices.EqualFunc(wholes, before, bytes.Equal) {
			t.Error("changed")
		}
	}
}

// P701: one memory for several arguments.
func TestArgumentsInOneMemory(t *testing.T) {
	seed := sample(3, 32)
	p, s := public(t, seed), signed(t, seed, seed)
	if !bytes.Equal(s, ed25519.Sign(ed25519.NewKeyFromSeed(seed), seed)) {
		t.Errorf("Sign of the seed: %x", s)
	}
	whole := slices.Concat(p, seed, s, []byte("behind"))
	before := bytes.Clone(whole)
	if e := sign.Verify(whole[:32], whole[32:64], whole[64:128]); e != api.OK || !bytes.Equal(whole, before) {
		t.Errorf("Verify: %d", e)
	}
	if e := sign.Verify(whole[:32], whole[:32], whole[:64]); e != api.ErrSign || !bytes.Equal(whole, before) {
		t.Errorf("Verify: %d", e)
	}
}

func spoil(b []byte) {
	b = b[:cap(b)]
	for i := range b {
		b[i] ^= 255
	}
}

// P701: pure functions: what is answered is new memory, the room behind it too; the same again.
func TestAnswersAreNewMemory(t *testing.T) {
	for _, seed := range seeds()[:5] {
		mine, text := bytes.Clone(seed), sample(9, 70)
		for _, call := range []func() []byte{
			func() []byte { return public(t, mine) },
			func() []byte { return signed(t, mine, text) },
		} {
			one, two := call(), call()
			want := bytes.Clone(one)
			spoil(one)
			if !bytes.Equal(two, want) || !bytes.Equal(call(), want) {
				t.Fatal("two answers share memory")
			}
			if !bytes.Equal(mine, seed) || !bytes.Equal(text, sample(9, 70)) {
				t.Fatal("an answer shares memory with an argument")
			}
		}
	}
}

// P701: what is handed in is not kept, and no call has weight for another one.
func TestNothingIsKept(t *testing.T) {
	seed, text := sample(4, 32), sample(5, 100)
	p, s := public(t, seed), signed(t, seed, text)
	wantP, wantS := bytes.Clone(p), bytes.Clone(s)
	other := sample(6, 32)
	copy(seed, other)
	clear(text)
	public(t, seed)
	signed(t, seed, text)
	sign.Verify(p, text, s)
	if !bytes.Equal(p, wantP) || !bytes.Equal(s, wantS) {
		t.Error("an answer has changed")
	}
	if sign.Verify(p, sample(5, 100), s) != api.OK || !bytes.Equal(signed(t, sample(4, 32), sample(5, 100)), wantS) {
		t.Error("another answer")
	}
}
