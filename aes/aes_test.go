package aes_test

import (
	"bytes"
	reference "crypto/aes"
	"math/rand"
	"slices"
	"testing"

	"synod/aes"
	"synod/api"
)

func sample(seed int64, n int) []byte {
	b := make([]byte, n)
	rand.New(rand.NewSource(seed)).Read(b)
	return b
}

// keysOf: where they can't be refused.
func keysOf(t *testing.T, key []byte) []byte {
	t.Helper()
	k, e := aes.Keys(key)
	if e != api.OK || len(k) != 176 {
		t.Fatalf("Keys of %x: %x, error %d", key, k, e)
	}
	return k
}

// block: where it can't be refused.
func block(t *testing.T, key, b []byte) []byte {
	t.Helper()
	out, e := aes.Block(key, b)
	if e != api.OK || len(out) != 16 {
		t.Fatalf("Block of %x by %x: %x, error %d", b, key, out, e)
	}
	return out
}

// back: where it can't be refused.
func back(t *testing.T, key, b []byte) []byte {
	t.Helper()
	out, e := aes.Back(key, b)
	if e != api.OK || len(out) != 16 {
		t.Fatalf("Back of %x by %x: %x, error %d", b, key, out, e)
	}
	return out
}

// edges: keys, and blocks: zeros, all 255, every single bit, every byte 255 alone, bytes in order, and chance ones.
func edges() [][]byte {
	out := [][]byte{make([]byte, 16), bytes.Repeat([]byte{255}, 16), bytes.Repeat([]byte{99}, 16), bytes.Repeat([]byte{82}, 16)}
	for bit := range 128 {
		b := make([]byte, 16)
		b[bit/8] = 1 << (bit % 8)
		out = append(out, b)
	}
	inOrder := make([]byte, 16)
	for i := range inOrder {
		inOrder[i] = byte(i)
		b := make([]byte, 16)
		b[i] = 255
		out = append(out, b)
	}
	out = append(out, inOrder)
	for i := range int64(20) {
		out = append(out, sample(i, 16))
	}
	return out
}

// checkAgainstLibrary: Block and Back of b by the key.
func checkAgainstLibrary(t *testing.T, key, b []byte) {
	t.Helper()
	c, err := reference.NewCipher(key)
	if err != nil {
		t.Fatal(err)
	}
	want := make([]byte, 16)
	c.Encrypt(want, b)
	if got := block(t, key, b); !bytes.Equal(got, want) {
		t.Fatalf("Block of %x by %x: %x, not %x", b, key, got, want)
	}
	c.Decrypt(want, b)
	if got := back(t, key, b); !bytes.Equal(got, want) {
		t.Fatalf("Back of %x by %x: %x, not %x", b, key, got, want)
	}
}

// P802: all edges as keys with all edges as blocks, against the library's.
func TestEdgesAgainstLibrary(t *testing.T) {
	for _, key := range edges() {
		for _, b := range edges() {
			checkAgainstLibrary(t, key, b)
		}
	}
}

// P802: chance ones, against the library's.
func TestManyAgainstLibrary(t *testing.T) {
	for i := range int64(3000) {
		both := sample(1000+i, 32)
		checkAgainstLibrary(t, both[:16], both[16:])
	}
}

// P803: there and back, and back and there.
func TestThereAndBack(t *testing.T) {
	for _, key := range edges() {
		for _, b := range edges() {
			if got := back(t, key, block(t, key, b)); !bytes.Equal(got, b) {
				t.Fatalf("Back of Block of %x by %x: %x", b, key, got)
			}
			if got := block(t, key, back(t, key, b)); !bytes.Equal(got, b) {
				t.Fatalf("Block of Back of %x by %x: %x", b, key, got)
			}
		}
	}
}

// P803: a long way there, and all of it back.
func TestFarThereAndBack(t *testing.T) {
	key, start := sample(1, 16), sample(2, 16)
	b := start
	for range 500 {
		b = block(t, key, b)
	}
	for range 500 {
		b = back(t, key, b)
	}
	if !bytes.Equal(b, start) {
		t.Errorf("%x, not %x", b, start)
	}
}

// P803: no two blocks become the same by one key, since each can be had back; nor does another key undo one.
func TestOneToOne(t *testing.T) {
	key := sample(1, 16)
	there, hither := map[string]bool{}, map[string]bool{}
	blocks := edges()
	for _, b := range blocks {
		there[string(block(t, key, b))], hither[string(back(t, key, b))] = true, true
	}
	if len(there) != len(blocks) || len(hither) != len(blocks) {
		t.Errorf("%d and %d of %d", len(there), len(hither), len(blocks))
	}
	b := sample(2, 16)
	for bit := range 128 {
		other := bytes.Clone(key)
		other[bit/8] ^= 1 << (bit % 8)
		if bytes.Equal(back(t, other, block(t, key, b)), b) {
			t.Errorf("bit %d of the key has no weight", bit)
		}
	}
}

// P802: the first round key is the key, and the others are those of the chapter's words.
func TestKeys(t *testing.T) {
	for _, key := range edges() {
		k := keysOf(t, key)
		if !bytes.Equal(k[:16], key) {
			t.Errorf("of %x: the first is %x", key, k[:16])
		}
		if want := slowKeys(key); !bytes.Equal(k, want) {
			t.Fatalf("of %x: %x, not %x", key, k, want)
		}
	}
}

// slowKeys: word by word, as the chapter says it.
func slowKeys(key []byte) []byte {
	w := bytes.Clone(key)
	power := byte(1)
	for i := 4; i < 44; i++ {
		word := bytes.Clone(w[4*i-4:])
		if i%4 == 0 {
			word = []byte{slowBox(word[1]) ^ power, slowBox(word[2]), slowBox(word[3]), slowBox(word[0])}
			power = product(power, 2)
		}
		for j := range 4 {
			w = append(w, w[4*i-16+j]^word[j])
		}
	}
	return w
}

// otherLengths: those that neither a key nor a block has: the ones next to it, those of other keys of this cipher, multiples, long ones.
func otherLengths() []int {
	return []int{0, 1, 8, 15, 17, 24, 31, 32, 48, 64, 176, 255, 256, 272, api.MaxBytes, api.MaxBytes + 16}
}

// others: lists of other lengths.
func others() [][]byte {
	out := [][]byte{nil, {}, sample(1, 16)[:15], sample(1, 16)[:0], append(sample(1, 16), 0)}
	for _, n := range otherLengths() {
		out = append(out, make([]byte, n), sample(2, n))
	}
	return out
}

// P802: keys of other lengths; nothing beside the error.
func TestKeysOfOtherLengths(t *testing.T) {
	for _, key := range others() {
		if k, e := aes.Keys(key); e != api.ErrArg || len(k) != 0 {
			t.Errorf("Keys of %d bytes: %x, error %d", len(key), k, e)
		}
	}
}

// P802: keys of other lengths, blocks of other lengths, and both; nothing beside the error.
func TestBlocksOfOtherLengths(t *testing.T) {
	good := sample(3, 16)
	check := func(key, b []byte) {
		t.Helper()
		if x, e := aes.Block(key, b); e != api.ErrArg || len(x) != 0 {
			t.Errorf("Block of %d bytes by %d: %x, error %d", len(b), len(key), x, e)
		}
		if x, e := aes.Back(key, b); e != api.ErrArg || len(x) != 0 {
			t.Errorf("Back of %d bytes by %d: %x, error %d", len(b), len(key), x, e)
		}
	}
	for _, bad := range others() {
		check(bad, good)
		check(good, bad)
		for _, worse := range others() {
			check(bad, worse)
		}
	}
}

// roomy: a copy of b with bytes behind it, which it does not count.
func roomy(b []byte) (list, whole []byte) {
	whole = append(bytes.Clone(b), sample(int64(len(b)), 200)...)
	return whole[:len(b)], whole
}

// P801: no call changes its arguments or the room behind them, nor does that room have weight; refused ones too.
func TestArgumentsAreNotChanged(t *testing.T) {
	key, b := sample(1, 16), sample(2, 16)
	for _, x := range []struct{ key, block []byte }{
		{key, b}, {key, b[:15]}, {key[:15], b}, {key[:15], b[:15]}, {nil, b}, {key, nil}, {nil, nil}, {sample(1, 17), sample(2, 32)},
	} {
		k, wholeK := roomy(x.key)
		text, wholeB := roomy(x.block)
		beforeK, beforeB := bytes.Clone(wholeK), bytes.Clone(wholeB)
		gotK, _ := aes.Keys(k)
		gotX, _ := aes.Block(k, text)
		gotY, _ := aes.Back(k, text)
		if !bytes.Equal(wholeK, beforeK) || !bytes.Equal(wholeB, beforeB) {
			t.Error("changed")
		}
		if len(x.key) == 16 && !bytes.Equal(gotK, keysOf(t, key)) {
			t.Errorf("the room behind has weight: %x", gotK)
		}
		if len(x.key) == 16 && len(x.block) == 16 && !(bytes.Equal(gotX, block(t, key, b)) && bytes.Equal(gotY, back(t, key, b))) {
			t.Errorf("the room behind has weight: %x, %x", gotX, gotY)
		}
	}
}

// P801: one memory for both arguments, and parts of it that overlap.
func TestArgumentsInOneMemory(t *testing.T) {
	whole := sample(4, 40)
	before := bytes.Clone(whole)
	for from := range 25 {
		key, b := whole[5:21], whole[from:from+16]
		x, y := block(t, key, b), back(t, key, b)
		if !bytes.Equal(whole, before) {
			t.Fatal("changed")
		}
		apartKey, apartB := bytes.Clone(key), bytes.Clone(b)
		if !bytes.Equal(x, block(t, apartKey, apartB)) || !bytes.Equal(y, back(t, apartKey, apartB)) {
			t.Errorf("from %d: %x, %x", from, x, y)
		}
	}
}

func spoil(b []byte) {
	b = b[:cap(b)]
	for i := range b {
		b[i] ^= 255
	}
}

// P801: pure functions: what is answered is new memory, the room behind it too; the same again.
func TestAnswersAreNewMemory(t *testing.T) {
	for i := range int64(5) {
		key, b := sample(i, 16), sample(i+9, 16)
		for _, call := range []func() []byte{
			func() []byte { return keysOf(t, key) },
			func() []byte { return block(t, key, b) },
			func() []byte { return back(t, key, b) },
		} {
			one, two := call(), call()
			want := bytes.Clone(one)
			spoil(one)
			if !bytes.Equal(two, want) || !bytes.Equal(call(), want) {
				t.Fatal("two answers share memory")
			}
			if !bytes.Equal(key, sample(i, 16)) || !bytes.Equal(b, sample(i+9, 16)) {
				t.Fatal("an answer shares memory with an argument")
			}
		}
	}
}

// P801: what is handed in is not kept, and no call has weight for another one.
func TestNothingIsKept(t *testing.T) {
	key, b := sample(4, 16), sample(5, 16)
	answers := [][]byte{keysOf(t, key), block(t, key, b), back(t, key, b)}
	var before [][]byte
	for _, a := range answers {
		before = append(before, bytes.Clone(a))
	}
	clear(key)
	copy(b, sample(6, 16))
	keysOf(t, key)
	block(t, key, b)
	back(t, key, b)
	aes.Block(nil, b)
	aes.Box(7)
	if !slices.EqualFunc(answers, before, bytes.Equal) {
		t.Error("an answer has changed")
	}
	key, b = sample(4, 16), sample(5, 16)
	again := [][]byte{keysOf(t, key), block(t, key, b), back(t, key, b)}
	if !slices.EqualFunc(again, before, bytes.Equal) {
		t.Error("another answer")
	}
}
