package scalar_test

import (
	"bytes"
	"math"
	"math/big"
	"math/rand"
	"slices"
	"testing"

	"synod/api"
	"synod/scalar"
)

// order: L, as the library's number, to hold ours against.
func order() *big.Int {
	low, _ := new(big.Int).SetString("27742317777372353535851937790883648493", 10)
	return low.Add(low, power(252))
}

func power(n uint) *big.Int { return new(big.Int).Lsh(big.NewInt(1), n) }

func plus(n *big.Int, m int64) *big.Int { return new(big.Int).Add(n, big.NewInt(m)) }

func times(n *big.Int, m int64) *big.Int { return new(big.Int).Mul(n, big.NewInt(m)) }

// toBig: bytes, the lowest first.
func toBig(b []byte) *big.Int {
	b = bytes.Clone(b)
	slices.Reverse(b)
	return new(big.Int).SetBytes(b)
}

// toBytes: so many bytes of a number that fits, as it is.
func toBytes(n *big.Int, size int) []byte {
	b := n.FillBytes(make([]byte, size))
	slices.Reverse(b)
	return b
}

// canonical: the 32 bytes of the rest by L.
func canonical(n *big.Int) []byte { return toBytes(new(big.Int).Mod(n, order()), 32) }

func small(n int64) []byte { return canonical(big.NewInt(n)) }

func sample(seed int64, n int) []byte {
	b := make([]byte, n)
	rand.New(rand.NewSource(seed)).Read(b)
	return b
}

// near: numbers around n that are not below 0 and fit into so many bytes.
func near(n *big.Int, by int64, size int) [][]byte {
	var out [][]byte
	for d := -by; d <= by; d++ {
		if x := plus(n, d); x.Sign() >= 0 && x.BitLen() <= 8*size {
			out = append(out, toBytes(x, size))
		}
	}
	return out
}

// edges: numbers of 32 bytes around 0, all multiples of L below 2^256, and the edges of words.
func edges() [][]byte {
	out := near(new(big.Int), 3, 32)
	for n := int64(1); n < 16; n++ {
		out = append(out, near(times(order(), n), 2, 32)...)
	}
	for _, n := range []uint{64, 128, 192, 251, 252, 253, 254, 255, 256} {
		out = append(out, near(power(n), 2, 32)...)
	}
	return append(out, toBytes(new(big.Int).Rsh(order(), 1), 32))
}

// wideEdges: numbers of 64 bytes around powers of 2, around L times those, and around L times words of which a guess may be one too much.
func wideEdges() [][]byte {
	var out [][]byte
	for n := uint(0); n <= 512; n++ {
		if n%64 < 3 || n%64 > 59 || n%7 == 0 {
			out = append(out, near(power(n), 2, 64)...)
		}
		if n <= 259 {
			out = append(out, near(new(big.Int).Lsh(order(), n), 2, 64)...)
			less := plus(power(n), -1)
			out = append(out, near(less.Mul(less, order()), 2, 64)...)
		}
	}
	most := new(big.Int).Div(power(512), order())
	out = append(out, near(most.Mul(most, order()), 2, 64)...)
	for _, step := range []uint{0, 64, 128, 192} {
		// 2^252 is below L, and 2^316 by L is below 2^64, though not by 2^252.
		out = append(out, near(power(316+step), 2, 64)...)
		top := plus(new(big.Int).Lsh(order(), 64), -1)
		out = append(out, near(top.Lsh(top, step), 2, 64)...)
	}
	return out
}

// patterns: words each of 0, 1, half of the bits, all bits.
func patterns(words int) [][]byte {
	kinds := []uint64{0, 1, 1 << 63, math.MaxUint64}
	var out [][]byte
	for i := range 1 << (2 * words) {
		b := make([]byte, 8*words)
		for at := range b {
			b[at] = byte(kinds[i>>(at/8*2)&3] >> (at % 8 * 8))
		}
		out = append(out, b)
	}
	return out
}

func chances(n, size int) [][]byte {
	var out [][]byte
	for i := range n {
		out = append(out, sample(int64(i), size))
	}
	return out
}

// call: one of the three calls that answer bytes, on as many lists as it has.
type call struct {
	name string
	size []int // of lists that it takes
	do   func(lists [][]byte) ([]byte, api.Errno)
}

func calls() []call {
	return []call{
		{"Reduce", []int{64}, func(l [][]byte) ([]byte, api.Errno) { return scalar.Reduce(l[0]) }},
		{"MulAdd", []int{32, 32, 32}, func(l [][]byte) ([]byte, api.Errno) { return scalar.MulAdd(l[0], l[1], l[2]) }},
		{"Neg", []int{32}, func(l [][]byte) ([]byte, api.Errno) { return scalar.Neg(l[0]) }},
	}
}

// lists: chance arguments for a call.
func (c call) lists(seed int64) [][]byte {
	var out [][]byte
	for i, n := range c.size {
		out = append(out, sample(seed*10+int64(i), n))
	}
	return out
}

// check: that a call went well and answered the bytes of want mod L.
func check(t *testing.T, what string, got []byte, e api.Errno, want *big.Int) {
	t.Helper()
	if e != api.OK || !bytes.Equal(got, canonical(want)) {
		t.Fatalf("%s: %x, error %d, not %x", what, got, e, canonical(want))
	}
}

func checkRefused(t *testing.T, what string, got []byte, e api.Errno) {
	t.Helper()
	if e != api.ErrArg || len(got) != 0 {
		t.Fatalf("%s: %x, error %d", what, got, e)
	}
}

// mulAdd: where it can't be refused.
func mulAdd(t *testing.T, a, b, c []byte) []byte {
	t.Helper()
	got, e := scalar.MulAdd(a, b, c)
	if e != api.OK {
		t.Fatalf("MulAdd: %d", e)
	}
	return got
}

// otherLengths: lengths that are not 32.
func otherLengths() []int {
	return []int{0, 1, 8, 16, 31, 33, 63, 64, 65, 72, 96, 256, 288, api.MaxBytes, api.MaxBytes + 32}
}

// P403: bytes that are not 32, in each place of MulAdd and of Neg.
func TestOtherLengths(t *testing.T) {
	good := small(7)
	for _, n := range otherLengths() {
		for _, bad := range [][]byte{make([]byte, n), sample(1, n)} {
			for mask := 1; mask < 8; mask++ {
				l := [][]byte{good, good, good}
				for i := range l {
					if mask>>i&1 == 1 {
						l[i] = bad
					}
				}
				got, e := scalar.MulAdd(l[0], l[1], l[2])
				checkRefused(t, "MulAdd", got, e)
			}
			got, e := scalar.Neg(bad)
			checkRefused(t, "Neg", got, e)
		}
	}
	for _, l := range [][][]byte{{nil, good, good}, {good, nil, good}, {good, good, nil}, {nil, nil, nil}} {
		got, e := scalar.MulAdd(l[0], l[1], l[2])
		checkRefused(t, "MulAdd of nil", got, e)
	}
	got, e := scalar.Neg(nil)
	checkRefused(t, "Neg of nil", got, e)
}

// P402: 0 to 64 bytes, and more.
func TestReduceLengths(t *testing.T) {
	for n := range 65 {
		full := bytes.Repeat([]byte{255}, n)
		last := make([]byte, n)
		if n > 0 {
			last[n-1] = 128
		}
		for _, b := range [][]byte{make([]byte, n), full, last, sample(2, n)} {
			got, e := scalar.Reduce(b)
			check(t, "Reduce", got, e, toBig(b))
		}
	}
	for _, n := range []int{65, 66, 72, 96, 127, 128, 256, 288, 320, api.MaxBytes, api.MaxBytes + 1} {
		for _, b := range [][]byte{make([]byte, n), sample(1, n)} {
			got, e := scalar.Reduce(b)
			checkRefused(t, "Reduce", got, e)
		}
	}
	got, e := scalar.Reduce(nil)
	check(t, "Reduce of nil", got, e, new(big.Int))
}

// P401: bytes out of a longer memory are those bytes; neither they nor the room behind them are changed.
func TestHandedInIsNotChanged(t *testing.T) {
	for _, c := range calls() {
		for i := range int64(50) {
			l := c.lists(i)
			want, e := c.do(l)
			var whole, before, roomy [][]byte
			for j := range l {
				whole = append(whole, append(bytes.Clone(l[j]), sample(int64(j), 100)...))
				before = append(before, bytes.Clone(whole[j]))
				roomy = append(roomy, whole[j][:len(l[j])])
			}
			got, e2 := c.do(roomy)
			if !bytes.Equal(got, want) || e != e2 {
				t.Fatalf("%s hangs on the room behind", c.name)
			}
			scalar.Canonical(whole[0][:32])
			scalar.Canonical(whole[0][:31])
			if !slices.EqualFunc(whole, before, bytes.Equal) {
				t.Fatalf("%s: changed", c.name)
			}
		}
	}
}

func spoil(b []byte) {
	b = b[:cap(b)]
	for i := range b {
		b[i] ^= 0xff
	}
}

// P401: what is answered is new memory, the room behind it too: not an argument's, not another answer's; the same is answered again.
func TestAnswersAreNewMemory(t *testing.T) {
	for _, c := range calls() {
		for i := range int64(20) {
			l, before := c.lists(i), c.lists(i)
			one, _ := c.do(l)
			want := bytes.Clone(one)
			two, _ := c.do(l)
			spoil(one)
			again, _ := c.do(l)
			if !bytes.Equal(two, want) || !bytes.Equal(again, want) {
				t.Fatalf("%s: two answers share memory", c.name)
			}
			if !slices.EqualFunc(l, before, bytes.Equal) {
				t.Fatalf("%s: an answer shares memory with an argument", c.name)
			}
		}
	}
	// Canonical bytes, too: they are answered as they came in.
	for _, call := range []func([]byte) ([]byte, api.Errno){scalar.Reduce, scalar.Neg} {
		a := small(0)
		got, _ := call(a)
		spoil(got)
		if !bytes.Equal(a, small(0)) {
			t.Error("an answer shares memory with an argument")
		}
	}
}

// P401: one list in all places is no more than three lists of the same bytes.
func TestOneListForAll(t *testing.T) {
	for _, n := range edges() {
		got, e := scalar.MulAdd(n, n, n)
		want := new(big.Int).Mul(toBig(n), toBig(n))
		check(t, "MulAdd of one list", got, e, want.Add(want, toBig(n)))
	}
}

// P402, P403: the chapter's examples.
func TestExamples(t *testing.T) {
	got, e := scalar.MulAdd(small(2), small(3), small(4))
	check(t, "MulAdd of 2, 3 and 4", got, e, big.NewInt(10))
	got, e = scalar.Neg(small(0))
	check(t, "Neg of 0", got, e, new(big.Int))
	got, e = scalar.Reduce(toBytes(order(), 32))
	check(t, "Reduce of L", got, e, new(big.Int))
}

// P402: numbers that the chapter's L makes edges, by what they are.
func TestReduceEdges(t *testing.T) {
	l := order()
	c := new(big.Int).Sub(l, power(252))
	for _, x := range []struct {
		n, want *big.Int
	}{
		{new(big.Int), new(big.Int)},
		{big.NewInt(1), big.NewInt(1)},
		{plus(l, -1), plus(l, -1)},
		{l, new(big.Int)},
		{plus(l, 1), big.NewInt(1)},
		{power(252), power(252)},
		{plus(times(l, 2), -1), plus(l, -1)},
		{times(l, 2), new(big.Int)},
		{plus(times(l, 15), 3), big.NewInt(3)},
		{power(253), new(big.Int).Sub(power(252), c)},
		{new(big.Int).Mul(l, l), new(big.Int)},
		{plus(new(big.Int).Mul(l, l), -1), plus(l, -1)},
	} {
		for _, size := range []int{32, 33, 40, 63, 64} {
			if x.n.BitLen() <= 8*size {
				got, e := scalar.Reduce(toBytes(x.n, size))
				if e != api.OK || !bytes.Equal(got, toBytes(x.want, 32)) {
					t.Errorf("Reduce of %v: %x, error %d", x.n, got, e)
				}
			}
		}
	}
}

// P402: against the library's.
func TestReduce(t *testing.T) {
	for _, b := range slices.Concat(edges(), wideEdges(), patterns(4), patterns(8), chances(2000, 64), chances(500, 32)) {
		got, e := scalar.Reduce(b)
		if e != api.OK || !bytes.Equal(got, canonical(toBig(b))) {
			t.Fatalf("Reduce of %x: %x, error %d", b, got, e)
		}
	}
}

// P403: each three of the edges, and chance numbers, against the library's.
func TestMulAdd(t *testing.T) {
	l := order()
	holds := func(a, b, c []byte) {
		got, e := scalar.MulAdd(a, b, c)
		want := new(big.Int).Mul(toBig(a), toBig(b))
		want.Add(want, toBig(c)).Mod(want, l)
		if e != api.OK || !bytes.Equal(got, toBytes(want, 32)) {
			t.Fatalf("MulAdd of %x, %x and %x: %x, error %d", a, b, c, got, e)
		}
	}
	all := edges()
	thirds := slices.Concat([][]byte{small(0), small(1), small(-1), toBytes(plus(power(256), -1), 32)}, chances(2, 32))
	for _, a := range all {
		for _, b := range all {
			for _, c := range thirds {
				holds(a, b, c)
			}
		}
	}
	for _, a := range patterns(4) {
		for i, b := range patterns(4) {
			holds(a, b, all[i%len(all)])
		}
	}
	for i := range int64(2000) {
		holds(sample(i, 32), sample(i+5000, 32), sample(i+10000, 32))
	}
}

// P403: 0 and L make 0; with a, 0.
func TestNeg(t *testing.T) {
	for _, a := range slices.Concat(edges(), patterns(4), chances(300, 32)) {
		got, e := scalar.Neg(a)
		check(t, "Neg", got, e, new(big.Int).Neg(toBig(a)))
		if sum := mulAdd(t, a, small(1), got); !bytes.Equal(sum, small(0)) {
			t.Fatalf("%x and its Neg: %x", a, sum)
		}
		back, e := scalar.Neg(got)
		check(t, "Neg of Neg", back, e, toBig(a))
	}
	for n := range int64(16) {
		got, e := scalar.Neg(toBytes(times(order(), n), 32))
		check(t, "Neg of a multiple of L", got, e, new(big.Int))
	}
}

// P404: other lengths; at and around L; what is above it in one byte only.
func TestCanonical(t *testing.T) {
	for _, n := range otherLengths() {
		if scalar.Canonical(make([]byte, n)) {
			t.Errorf("%d zeros", n)
		}
	}
	if scalar.Canonical(nil) || scalar.Canonical(small(1)[:31]) || scalar.Canonical(append(small(1), 0)) {
		t.Error("not 32 bytes")
	}
	l := order()
	for _, b := range slices.Concat(edges(), patterns(4), chances(300, 32), near(l, 300, 32)) {
		if got := scalar.Canonical(b); got != (toBig(b).Cmp(l) < 0) {
			t.Fatalf("Canonical of %x: %v", b, got)
		}
	}
	for i := range 256 {
		for _, from := range []*big.Int{new(big.Int), l, plus(l, -1)} {
			b := toBytes(from, 32)
			b[i/8] ^= 1 << (i % 8)
			if got := scalar.Canonical(b); got != (toBig(b).Cmp(l) < 0) {
				t.Fatalf("Canonical of %x: %v", b, got)
			}
		}
	}
}

// P405: what was Reduced is Canonical, and Reduces to itself; so does what MulAdd and Neg answer.
func TestAnswersAreCanonical(t *testing.T) {
	for _, b := range slices.Concat(wideEdges(), chances(300, 64)) {
		reduced, _ := scalar.Reduce(b)
		opposite, _ := scalar.Neg(b[:32])
		for _, x := range [][]byte{reduced, opposite, mulAdd(t, b[:32], b[32:], b[:32])} {
			again, e := scalar.Reduce(x)
			if !scalar.Canonical(x) || e != api.OK || !bytes.Equal(again, x) {
				t.Fatalf("of %x: %x", b, x)
			}
		}
	}
}

// P405: order, groups, spreading over sums.
func TestSumsAndProducts(t *testing.T) {
	zero, one := small(0), small(1)
	all := slices.Concat(near(order(), 1, 32), near(power(256), 1, 32), near(power(252), 1, 32), near(new(big.Int), 2, 32), chances(10, 32))
	mul := func(a, b []byte) []byte { return mulAdd(t, a, b, zero) }
	add := func(a, b []byte) []byte { return mulAdd(t, a, one, b) }
	for _, a := range all {
		for _, b := range all {
			if !bytes.Equal(mul(a, b), mul(b, a)) || !bytes.Equal(add(a, b), add(b, a)) {
				t.Fatalf("order of %x and %x", a, b)
			}
			for _, c := range all {
				if !bytes.Equal(mulAdd(t, a, b, c), mulAdd(t, b, a, c)) || !bytes.Equal(mulAdd(t, a, b, c), add(mul(a, b), c)) {
					t.Fatalf("order of %x, %x and %x", a, b, c)
				}
				if !bytes.Equal(mul(mul(a, b), c), mul(a, mul(b, c))) || !bytes.Equal(add(add(a, b), c), add(a, add(b, c))) {
					t.Fatalf("groups of %x, %x and %x", a, b, c)
				}
				if !bytes.Equal(mul(add(a, b), c), add(mul(a, c), mul(b, c))) {
					t.Fatalf("spreading of %x and %x over %x", a, b, c)
				}
			}
		}
	}
}

// P405: the same mod L is the same to every call.
func TestSameModL(t *testing.T) {
	for n := int64(1); n < 16; n++ {
		for d := range int64(3) {
			b, low := toBytes(plus(times(order(), n), d), 32), small(d)
			other, third := sample(n, 32), sample(-n, 32)
			one, _ := scalar.Neg(b)
			two, _ := scalar.Neg(low)
			if !bytes.Equal(one, two) ||
				!bytes.Equal(mulAdd(t, b, other, third), mulAdd(t, low, other, third)) ||
				!bytes.Equal(mulAdd(t, other, b, third), mulAdd(t, other, low, third)) ||
				!bytes.Equal(mulAdd(t, other, third, b), mulAdd(t, other, third, low)) {
				t.Fatalf("%d L and %d", n, d)
			}
		}
	}
}
