package sha_test

import (
	"bytes"
	"crypto/sha256"
	"crypto/sha512"
	"encoding/hex"
	"math"
	"math/rand"
	"strings"
	"testing"

	"synod/api"
	"synod/sha"
)

// kind: one of the two hashes, and the library's, to hold it against.
type kind struct {
	bits, size, block int
	sum               func([]byte) []byte
	want              func([]byte) []byte
}

func kinds() []kind {
	return []kind{
		{256, 32, 64, sha.Sum256, func(b []byte) []byte { x := sha256.Sum256(b); return x[:] }},
		{512, 64, 128, sha.Sum512, func(b []byte) []byte { x := sha512.Sum512(b); return x[:] }},
	}
}

func sample(n int) []byte {
	b := make([]byte, n)
	rand.New(rand.NewSource(int64(n))).Read(b)
	return b
}

// P101: a nil Hash, and one that New did not make.
func TestHashThatNobodyMade(t *testing.T) {
	for _, h := range []*sha.Hash{nil, {}, new(sha.Hash), sha.New(0)} {
		for range 2 { // a refused Write has changed nothing
			for _, b := range [][]byte{nil, {}, sample(3), sample(500)} {
				if e := h.Write(b); e != api.ErrArg {
					t.Errorf("Write: %d", e)
				}
			}
			if s := h.Sum(); len(s) != 0 {
				t.Errorf("Sum: %v", s)
			}
			if n := h.Size(); n != 0 {
				t.Errorf("Size: %d", n)
			}
		}
	}
}

// withRoom: b with room behind it, and the whole of that memory.
func withRoom(b []byte) (part, whole []byte) {
	whole = append(bytes.Clone(b), sample(256)...)
	return whole[:len(b)], whole
}

// P101: what is handed in is not changed, nor the room behind it.
func TestHandedInIsNotChanged(t *testing.T) {
	for _, k := range kinds() {
		for n := range 3 * k.block {
			part, whole := withRoom(sample(n))
			before := bytes.Clone(whole)
			k.sum(part)
			h := sha.New(k.bits)
			h.Write(part)
			h.Write(part)
			h.Sum()
			if !bytes.Equal(whole, before) {
				t.Fatalf("%d bits, %d bytes: changed", k.bits, n)
			}
		}
	}
}

// P101: what is handed in is not kept.
func TestHandedInIsNotKept(t *testing.T) {
	for _, k := range kinds() {
		for n := range 3 * k.block {
			h := sha.New(k.bits)
			b := sample(n)
			h.Write(b)
			for i := range b {
				b[i] ^= 0xff
			}
			if got := h.Sum(); !bytes.Equal(got, k.want(sample(n))) {
				t.Fatalf("%d bits, %d bytes: Sum hangs on the list that was written", k.bits, n)
			}
		}
	}
}

func spoil(b []byte) {
	b = b[:cap(b)]
	for i := range b {
		b[i] ^= 0xff
	}
}

// P101: what is answered is new memory, the room behind it too.
func TestAnswersAreNewMemory(t *testing.T) {
	text := sample(200)
	for _, k := range kinds() {
		one, two := k.sum(text), k.sum(text)
		spoil(one)
		if !bytes.Equal(two, k.want(text)) || !bytes.Equal(k.sum(text), two) {
			t.Errorf("%d bits: two answers share memory", k.bits)
		}
		h := sha.New(k.bits)
		h.Write(text)
		three, four := h.Sum(), h.Sum()
		spoil(three)
		if !bytes.Equal(four, k.want(text)) || !bytes.Equal(h.Sum(), four) {
			t.Errorf("%d bits: Sum shares memory", k.bits)
		}
		h.Write(text)
		if !bytes.Equal(h.Sum(), k.want(append(bytes.Clone(text), text...))) {
			t.Errorf("%d bits: a spoilt answer reached the Hash", k.bits)
		}
		if !bytes.Equal(text, sample(200)) {
			t.Errorf("%d bits: an answer shares memory with an argument", k.bits)
		}
	}
}

// P101: two Hashes know nothing of each other.
func TestHashesAreApart(t *testing.T) {
	a, b, c := sha.New(256), sha.New(256), sha.New(512)
	for i := range 300 {
		a.Write([]byte{byte(i)})
		b.Write([]byte{byte(i + 1)})
		c.Write([]byte{byte(i + 2)})
	}
	counted := func(from int) []byte {
		out := make([]byte, 300)
		for i := range out {
			out[i] = byte(from + i)
		}
		return out
	}
	if !bytes.Equal(a.Sum(), sha.Sum256(counted(0))) || !bytes.Equal(b.Sum(), sha.Sum256(counted(1))) || !bytes.Equal(c.Sum(), sha.Sum512(counted(2))) {
		t.Error("one Hash hangs on another")
	}
}

// P102: texts whose sums are known.
func TestKnownSums(t *testing.T) {
	million := strings.Repeat("a", 1000000)
	for _, c := range []struct{ text, sum256, sum512 string }{
		{"", "e3b0c44298fc1c149afbf4c8996fb92427ae41e4649b934ca495991b7852b855",
			"cf83e1357eefb8bdf1542850d66d8007d620e4050b5715dc83f4a921d36ce9ce47d0d13c5d85f2b0ff8318d2877eec2f63b931bd47417a81a538327af927da3e"},
		{"abc", "ba7816bf8f01cfea414140de5dae2223b00361a396177a9cb410ff61f20015ad",
			"ddaf35a193617abacc417349ae20413112e6fa4e89a97ea20a9eeee64b55d39a2192992a274fc1a836ba3c23a3feebbd454d4423643ce80e2a9ac94fa54ca49f"},
		{"abcdbcdecdefdefgefghfghighijhijkijkljklmklmnlmnomnopnopq", "248d6a61d20638b8e5c026930c3e6039a33ce45964ff2167f6ecedd419db06c1",
			"204a8fc6dda82f0a0ced7beb8e08a41657c16ef468b228a8279be331a703c33596fd15c13b1b07f9aa1d3bea57789ca031ad85c7a71dd70354ec631238ca3445"},
		{million, "cdc76e5c9914fb9281a1c7e284d73e67f1809a48a497200e046d39ccc7112cd0",
			"e718483d0ce769644e2e42c7bc15b4638e1f98b13b2044285632a803afa973ebde0ff244877ea60a4cb0432ce577c31beb009c5c2c49aa2e4eadb217ad8cc09b"},
	} {
		if got := hex.EncodeToString(sha.Sum256([]byte(c.text))); got != c.sum256 {
			t.Errorf("Sum256 of %d bytes: %s", len(c.text), got)
		}
		if got := hex.EncodeToString(sha.Sum512([]byte(c.text))); got != c.sum512 {
			t.Errorf("Sum512 of %d bytes: %s", len(c.text), got)
		}
	}
}

// P102: nil and empty are the same.
func TestSumOfNothing(t *testing.T) {
	for _, k := range kinds() {
		if !bytes.Equal(k.sum(nil), k.want(nil)) || !bytes.Equal(k.sum([]byte{}), k.want(nil)) {
			t.Errorf("%d bits", k.bits)
		}
	}
}

// P102: every length across several blocks, so that each edge of a block and of its padding (55, 56, 63, 64, 65, 111, 112, 127, 128, 129 bytes among them) is passed.
func TestSumsOfAllLengths(t *testing.T) {
	for _, k := range kinds() {
		for n := range 5*k.block + 2 {
			for _, b := range [][]byte{sample(n), make([]byte, n), bytes.Repeat([]byte{255}, n)} {
				if got := k.sum(b); len(got) != k.size || !bytes.Equal(got, k.want(b)) {
					t.Fatalf("%d bits, %d bytes: %x", k.bits, n, got)
				}
			}
		}
	}
}

// P102: lengths whose number of bits fills more of its bytes.
func TestSumsOfLongTexts(t *testing.T) {
	for _, k := range kinds() {
		for _, n := range []int{8191, 8192, api.MaxBytes - 1, api.MaxBytes, api.MaxBytes + 1, 1<<21 - 1, 1 << 21} {
			if b := sample(n); !bytes.Equal(k.sum(b), k.want(b)) {
				t.Errorf("%d bits, %d bytes", k.bits, n)
			}
		}
	}
}

// P103: New of bits.
func TestNew(t *testing.T) {
	for _, k := range kinds() {
		h := sha.New(k.bits)
		if h == nil || h.Size() != k.size || !bytes.Equal(h.Sum(), k.want(nil)) {
			t.Errorf("New(%d) is not of nothing", k.bits)
		}
	}
	for _, bits := range []int{0, 1, 32, 64, 128, 160, 224, 255, 257, 384, 511, 513, 1024, -1, -256, -512, 256 + 1<<32, 512 + 1<<32, math.MaxInt, math.MinInt} {
		if sha.New(bits) != nil {
			t.Errorf("New(%d)", bits)
		}
	}
}

// P103: Sum may be asked at any time, and again, and more may be written behind it.
func TestSumAndWriteOn(t *testing.T) {
	text := sample(700)
	for _, k := range kinds() {
		h := sha.New(k.bits)
		for n := range text {
			for range 2 {
				if got := h.Sum(); !bytes.Equal(got, k.want(text[:n])) {
					t.Fatalf("%d bits, %d bytes: %x", k.bits, n, got)
				}
			}
			if h.Size() != k.size {
				t.Fatalf("%d bits, %d bytes: Size %d", k.bits, n, h.Size())
			}
			if e := h.Write(text[n : n+1]); e != api.OK {
				t.Fatalf("%d bits, %d bytes: Write %d", k.bits, n, e)
			}
		}
	}
}

func checkPieces(t *testing.T, k kind, text []byte, cuts []int) {
	t.Helper()
	h := sha.New(k.bits)
	from := 0
	for _, to := range append(cuts, len(text)) {
		if e := h.Write(text[from:to]); e != api.OK {
			t.Fatalf("Write: %d", e)
		}
		from = to
	}
	if !bytes.Equal(h.Sum(), k.sum(text)) || !bytes.Equal(h.Sum(), k.want(text)) {
		t.Fatalf("%d bits, %d bytes cut at %v", k.bits, len(text), cuts)
	}
}

// P104: two pieces, cut everywhere, the empty ones at both ends among them.
func TestTwoPieces(t *testing.T) {
	for _, k := range kinds() {
		for _, n := range []int{0, 1, k.block - 1, k.block, k.block + 1, 2 * k.block, 3*k.block + 7} {
			for cut := range n + 1 {
				checkPieces(t, k, sample(n), []int{cut})
				checkPieces(t, k, sample(n), []int{cut, cut})
			}
		}
	}
}

// P104: three pieces, the ends of the middle one near the edges of blocks.
func TestThreePieces(t *testing.T) {
	for _, k := range kinds() {
		text := sample(4 * k.block)
		for first := range k.block + 2 {
			for _, second := range []int{k.block + 1, 2*k.block - 1, 2 * k.block, 2*k.block + 1, 3 * k.block, 4*k.block - 1, 4 * k.block} {
				checkPieces(t, k, text, []int{first, second})
			}
		}
	}
}

// P104: pieces of one length each.
func TestEqualPieces(t *testing.T) {
	text := sample(1000)
	for _, k := range kinds() {
		for step := 1; step <= 300; step++ {
			var cuts []int
			for at := step; at < len(text); at += step {
				cuts = append(cuts, at)
			}
			checkPieces(t, k, text, cuts)
		}
	}
}

// P104: pieces of chance lengths, empty ones among them.
func TestChancePieces(t *testing.T) {
	chance := rand.New(rand.NewSource(104))
	for _, k := range kinds() {
		for range 500 {
			text := sample(chance.Intn(2000))
			var cuts []int
			for at := 0; at < len(text); at += chance.Intn(4) * chance.Intn(100) {
				cuts = append(cuts, at)
			}
			checkPieces(t, k, text, cuts)
		}
	}
}

// P104: a piece that is nil, or empty, changes nothing.
func TestEmptyPieces(t *testing.T) {
	for _, k := range kinds() {
		h := sha.New(k.bits)
		text := sample(3 * k.block)
		for n := range text {
			h.Write(nil)
			h.Write(text[n : n+1])
			h.Write([]byte{})
			if !bytes.Equal(h.Sum(), k.want(text[:n+1])) {
				t.Fatalf("%d bits, %d bytes", k.bits, n+1)
			}
		}
	}
}
