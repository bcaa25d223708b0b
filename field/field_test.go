package field_test

import (
	"bytes"
	"math"
	"math/big"
	"math/rand"
	"slices"
	"testing"

	"synod/api"
	"synod/field"
)

// prime: 2^255 - 19, as the library's number, to hold ours against.
func prime() *big.Int {
	return new(big.Int).Sub(power(255), big.NewInt(19))
}

func power(n uint) *big.Int { return new(big.Int).Lsh(big.NewInt(1), n) }

// toBig: 32 bytes, the lowest first.
func toBig(b []byte) *big.Int {
	b = bytes.Clone(b)
	slices.Reverse(b)
	return new(big.Int).SetBytes(b)
}

// toBytes: 32 bytes of a number below 2^256, as it is.
func toBytes(n *big.Int) []byte {
	b := n.FillBytes(make([]byte, 32))
	slices.Reverse(b)
	return b
}

// canonical: the bytes of the rest by p.
func canonical(n *big.Int) []byte {
	return toBytes(new(big.Int).Mod(n, prime()))
}

func small(n int64) []byte { return canonical(big.NewInt(n)) }

func sample(seed int64, n int) []byte {
	b := make([]byte, n)
	rand.New(rand.NewSource(seed)).Read(b)
	return b
}

// near: numbers around n that are not below 0 and below 2^256.
func near(n *big.Int, by int64) [][]byte {
	var out [][]byte
	for d := -by; d <= by; d++ {
		x := new(big.Int).Add(n, big.NewInt(d))
		if x.Sign() >= 0 && x.BitLen() <= 256 {
			out = append(out, toBytes(x))
		}
	}
	return out
}

// edges: numbers around 0, p, 2^255, 2 p, 2^256 and the edges of words.
func edges() [][]byte {
	var out [][]byte
	twice := new(big.Int).Lsh(prime(), 1)
	half := new(big.Int).Rsh(prime(), 1)
	for _, n := range []*big.Int{new(big.Int), prime(), power(255), twice, power(256), half} {
		out = append(out, near(n, 3)...)
	}
	for _, n := range []int64{18, 19, 20, 37, 38, 39, 361} {
		out = append(out, toBytes(big.NewInt(n)))
		for _, from := range []*big.Int{power(255), power(256)} {
			out = append(out, toBytes(new(big.Int).Sub(from, big.NewInt(n))))
		}
	}
	for n := uint(50); n < 256; n++ {
		if n%64 < 2 || n%64 > 62 || n%51 == 0 {
			out = append(out, toBytes(power(n)))
		}
	}
	return out
}

// patterns: the four words each of 0, 1, half of the bits, all bits.
func patterns() [][]byte {
	words := []uint64{0, 1, 1 << 63, math.MaxUint64}
	var out [][]byte
	for i := range 256 {
		b := make([]byte, 32)
		for at := range b {
			b[at] = byte(words[i>>(at/8*2)&3] >> (at % 8 * 8))
		}
		out = append(out, b)
	}
	return out
}

// chances: so many chance numbers, all 256 bits of them.
func chances(n int) [][]byte {
	var out [][]byte
	for i := range n {
		out = append(out, sample(int64(i), 32))
	}
	return out
}

func some() [][]byte { return slices.Concat(edges(), patterns(), chances(50)) }

// answer: what a call of one or two lists answers, its lists one behind the other.
type answer struct {
	lists [][]byte
	ok    bool
	e     api.Errno
}

// calls: each call of bytes, of two lists; of a call of one list the second one is left out.
func calls() map[string]func(a, b []byte) answer {
	one := func(call func([]byte) ([]byte, api.Errno)) func(a, b []byte) answer {
		return func(a, b []byte) answer {
			x, e := call(a)
			return answer{lists: [][]byte{x}, e: e}
		}
	}
	two := func(call func(a, b []byte) ([]byte, api.Errno)) func(a, b []byte) answer {
		return func(a, b []byte) answer {
			x, e := call(a, b)
			return answer{lists: [][]byte{x}, e: e}
		}
	}
	swap := func(yes bool) func(a, b []byte) answer {
		return func(a, b []byte) answer {
			x, y, e := field.Swap(yes, a, b)
			return answer{lists: [][]byte{x, y}, e: e}
		}
	}
	return map[string]func(a, b []byte) answer{
		"Canon": one(field.Canon),
		"Inv":   one(field.Inv),
		"From": one(func(b []byte) ([]byte, api.Errno) {
			n, e := field.From(b)
			if e != api.OK && n != (field.Number{}) {
				return []byte{1}, e
			}
			if e != api.OK {
				return nil, e
			}
			return n.Bytes(), e
		}),
		"Add": two(field.Add),
		"Sub": two(field.Sub),
		"Mul": two(field.Mul),
		"Root": func(u, v []byte) answer {
			x, ok, e := field.Root(u, v)
			return answer{lists: [][]byte{x}, ok: ok, e: e}
		},
		"Swap, no":  swap(false),
		"Swap, yes": swap(true),
	}
}

func ofOne(name string) bool { return name == "Canon" || name == "Inv" || name == "From" }

func alike(a, b answer) bool {
	return a.ok == b.ok && a.e == b.e && slices.EqualFunc(a.lists, b.lists, bytes.Equal)
}

// number: ours, of 32 bytes.
func number(t *testing.T, b []byte) field.Number {
	t.Helper()
	n, e := field.From(b)
	if e != api.OK {
		t.Fatalf("From: %d", e)
	}
	return n
}

// check: that a call went well and answered the canonical bytes of want.
func check(t *testing.T, what string, got []byte, e api.Errno, want *big.Int) {
	t.Helper()
	if e != api.OK || !bytes.Equal(got, canonical(want)) {
		t.Fatalf("%s: %x, error %d, not %x", what, got, e, canonical(want))
	}
}

// P301: bytes that are not 32, in each place of each call.
func TestOtherLengths(t *testing.T) {
	good := small(7)
	for name, call := range calls() {
		for _, n := range []int{0, 1, 16, 31, 33, 63, 64, 96, 255, 256, 288, api.MaxBytes, api.MaxBytes + 32} {
			for _, bad := range [][]byte{make([]byte, n), sample(1, n)} {
				pairs := [][2][]byte{{bad, good}, {bad, bad}}
				if !ofOne(name) {
					pairs = append(pairs, [2][]byte{good, bad})
				}
				for _, p := range pairs {
					checkRefused(t, name, call(p[0], p[1]))
				}
			}
		}
		checkRefused(t, name, call(nil, nil))
		checkRefused(t, name, call(nil, good))
		if !ofOne(name) {
			checkRefused(t, name, call(good, nil))
		}
	}
}

func checkRefused(t *testing.T, name string, got answer) {
	t.Helper()
	if got.e != api.ErrArg || got.ok {
		t.Fatalf("%s: error %d, %v", name, got.e, got.ok)
	}
	for _, l := range got.lists {
		if len(l) != 0 {
			t.Fatalf("%s: %d bytes beside an error", name, len(l))
		}
	}
}

// P301: 32 bytes out of a longer memory are 32 bytes.
func TestRoomBehindHasNoWeight(t *testing.T) {
	for name, call := range calls() {
		for i := range int64(20) {
			a, b := sample(i, 32), sample(i+100, 32)
			roomyA, roomyB := append(bytes.Clone(a), 1, 2, 3)[:32], append(bytes.Clone(b), 4, 5)[:32]
			if !alike(call(a, b), call(roomyA, roomyB)) {
				t.Fatalf("%s hangs on the room behind", name)
			}
		}
	}
}

// P301: what is handed in is not changed, nor the room behind it.
func TestHandedInIsNotChanged(t *testing.T) {
	for name, call := range calls() {
		for i, n := range edges() {
			wholeA := append(bytes.Clone(n), sample(1, 100)...)
			wholeB := append(sample(int64(i), 32), sample(2, 100)...)
			beforeA, beforeB := bytes.Clone(wholeA), bytes.Clone(wholeB)
			call(wholeA[:32], wholeB[:32])
			call(wholeB[:32], wholeA[:32])
			call(wholeA[:31], wholeB[:33])
			if !bytes.Equal(wholeA, beforeA) || !bytes.Equal(wholeB, beforeB) {
				t.Fatalf("%s of %x: changed", name, n)
			}
		}
	}
}

// P301: one list for both is no more than two lists of the same bytes.
func TestOneListForBoth(t *testing.T) {
	for name, call := range calls() {
		for _, n := range edges() {
			if !alike(call(n, n), call(bytes.Clone(n), bytes.Clone(n))) {
				t.Fatalf("%s of %x", name, n)
			}
		}
	}
}

func spoil(b []byte) {
	b = b[:cap(b)]
	for i := range b {
		b[i] ^= 0xff
	}
}

// P301: what is answered is new memory, the room behind it too: not an argument's, not another answer's, not the other list's of one answer.
func TestAnswersAreNewMemory(t *testing.T) {
	for name, call := range calls() {
		for _, n := range edges() {
			a, b := bytes.Clone(n), small(4)
			want := call(bytes.Clone(n), small(4))
			one, two := call(a, b), call(a, b)
			for i, l := range one.lists {
				spoil(l)
				for j, other := range one.lists[i+1:] {
					if !bytes.Equal(other, want.lists[i+1+j]) {
						t.Fatalf("%s of %x: two lists of one answer share memory", name, n)
					}
				}
			}
			if !alike(two, want) || !alike(call(a, b), want) {
				t.Fatalf("%s of %x: two answers share memory", name, n)
			}
			if !bytes.Equal(a, n) || !bytes.Equal(b, small(4)) {
				t.Fatalf("%s of %x: an answer shares memory with an argument", name, n)
			}
		}
	}
}

// P302: the chapter's examples.
func TestExamples(t *testing.T) {
	got, e := field.Add(toBytes(new(big.Int).Sub(power(255), big.NewInt(20))), small(1))
	check(t, "Add of 2^255 - 20 and 1", got, e, new(big.Int))
	got, e = field.Mul(small(2), toBytes(power(254)))
	check(t, "Mul of 2 and 2^254", got, e, big.NewInt(19))
	got, e = field.Inv(small(1))
	check(t, "Inv of 1", got, e, big.NewInt(1))
}

// P302: numbers at p and above it, and what they stand for.
func TestCanonEdges(t *testing.T) {
	p := prime()
	for _, c := range []struct {
		n    *big.Int
		want int64
	}{
		{new(big.Int), 0},
		{big.NewInt(1), 1},
		{p, 0},
		{new(big.Int).Add(p, big.NewInt(1)), 1},
		{new(big.Int).Sub(power(255), big.NewInt(1)), 18},
		{power(255), 19},
		{new(big.Int).Lsh(p, 1), 0},
		{new(big.Int).Add(new(big.Int).Lsh(p, 1), big.NewInt(1)), 1},
		{new(big.Int).Sub(power(256), big.NewInt(1)), 37},
		{new(big.Int).Sub(power(255), big.NewInt(20)), -1},
		{new(big.Int).Sub(new(big.Int).Lsh(p, 1), big.NewInt(1)), -1},
	} {
		got, e := field.Canon(toBytes(c.n))
		check(t, "Canon of "+c.n.String(), got, e, big.NewInt(c.want))
	}
}

// P302: one number, against the library's.
func TestAnswersOfOne(t *testing.T) {
	for _, a := range slices.Concat(some(), chances(500)) {
		n := toBig(a)
		got, e := field.Canon(a)
		check(t, "Canon of "+n.String(), got, e, n)
		want := new(big.Int).ModInverse(n, prime())
		if want == nil {
			want = new(big.Int)
		}
		got, e = field.Inv(a)
		check(t, "Inv of "+n.String(), got, e, want)
	}
}

// P302: each two of many numbers, against the library's.
func TestAnswersOfTwo(t *testing.T) {
	all := some()
	p := prime()
	for _, a := range all {
		n := toBig(a)
		for _, b := range all {
			m := toBig(b)
			for _, c := range []struct {
				name string
				call func(a, b []byte) ([]byte, api.Errno)
				want *big.Int
			}{
				{"Add", field.Add, new(big.Int).Add(n, m)},
				{"Sub", field.Sub, new(big.Int).Sub(n, m)},
				{"Mul", field.Mul, new(big.Int).Mul(n, m)},
			} {
				got, e := c.call(a, b)
				if e != api.OK || !bytes.Equal(got, toBytes(c.want.Mod(c.want, p))) {
					t.Fatalf("%s of %x and %x: %x, error %d", c.name, a, b, got, e)
				}
			}
		}
	}
}

// wantRoot: the even root of u by v, and whether there is one, by the library.
func wantRoot(u, v *big.Int) (*big.Int, bool) {
	p := prime()
	u, v = new(big.Int).Mod(u, p), new(big.Int).Mod(v, p)
	if u.Sign() == 0 {
		return new(big.Int), true
	}
	if v.Sign() == 0 {
		return new(big.Int), false
	}
	q := new(big.Int).Mul(u, new(big.Int).ModInverse(v, p))
	x := new(big.Int).ModSqrt(q.Mod(q, p), p)
	if x == nil {
		return new(big.Int), false
	}
	if x.Bit(0) == 1 {
		x.Sub(p, x)
	}
	return x, true
}

func checkRoot(t *testing.T, u, v []byte) bool {
	t.Helper()
	want, there := wantRoot(toBig(u), toBig(v))
	x, ok, e := field.Root(u, v)
	if e != api.OK || ok != there || !bytes.Equal(x, toBytes(want)) {
		t.Fatalf("Root of %x and %x: %x, %v, error %d, not %x, %v", u, v, x, ok, e, toBytes(want), there)
	}
	return ok
}

// P303: chance numbers, of which about half have a root, and small ones.
func TestRoots(t *testing.T) {
	there := 0
	for i := range int64(600) {
		if checkRoot(t, sample(i, 32), sample(i+1000, 32)) {
			there++
		}
	}
	if there < 200 || there > 400 {
		t.Errorf("%d of 600 have a root", there)
	}
	for u := range int64(20) {
		for v := range int64(20) {
			checkRoot(t, small(u), small(v))
			checkRoot(t, small(-u), small(v))
		}
	}
}

// P303: numbers at the edges, 0 in all of its forms among them.
func TestRootEdges(t *testing.T) {
	for _, u := range edges() {
		for _, v := range edges() {
			checkRoot(t, u, v)
		}
	}
}

// P303: where u or v is 0, whichever bytes say so; what the answer has where there is no root.
func TestRootOfZero(t *testing.T) {
	zero := make([]byte, 32)
	zeros := [][]byte{zero, toBytes(prime()), toBytes(new(big.Int).Lsh(prime(), 1))}
	for _, z := range zeros {
		for _, n := range [][]byte{small(1), small(2), small(-1), sample(3, 32)} {
			if x, ok, e := field.Root(z, n); e != api.OK || !ok || !bytes.Equal(x, zero) {
				t.Errorf("u is 0: %x, %v, error %d", x, ok, e)
			}
			if x, ok, e := field.Root(n, z); e != api.OK || ok || !bytes.Equal(x, zero) {
				t.Errorf("v is 0: %x, %v, error %d", x, ok, e)
			}
		}
		for _, other := range zeros {
			if x, ok, e := field.Root(z, other); e != api.OK || !ok || !bytes.Equal(x, zero) {
				t.Errorf("both are 0: %x, %v, error %d", x, ok, e)
			}
		}
	}
	if x, ok, e := field.Root(small(2), small(1)); e != api.OK || ok || !bytes.Equal(x, zero) {
		t.Errorf("2 by 1: %x, %v, error %d", x, ok, e)
	}
}

// P304: both ways, of numbers that are not canonical, too.
func TestSwap(t *testing.T) {
	all := some()
	for i, a := range all {
		b := all[len(all)-1-i]
		c, d, e := field.Swap(false, a, b)
		check(t, "the first, no", c, e, toBig(a))
		check(t, "the second, no", d, e, toBig(b))
		c, d, e = field.Swap(true, a, b)
		check(t, "the first, yes", c, e, toBig(b))
		check(t, "the second, yes", d, e, toBig(a))
	}
}

// P304a: n mod p, below 0 too.
func TestSmall(t *testing.T) {
	for _, n := range []int{0, 1, 2, 18, 19, 20, 255, 256, 65535, 65536, 121665, 486662, 1<<31 - 1, 1 << 31, 1 << 32, 1 << 62, math.MaxInt - 1, math.MaxInt} {
		if got := field.Small(n).Bytes(); !bytes.Equal(got, small(int64(n))) {
			t.Errorf("Small of %d: %x", n, got)
		}
		if got := field.Small(-n).Bytes(); !bytes.Equal(got, small(int64(-n))) {
			t.Errorf("Small of %d: %x", -n, got)
		}
		if got := field.Small(n).Plus(field.Small(-n)); got != (field.Number{}) {
			t.Errorf("%d and its opposite: %x", n, got.Bytes())
		}
	}
	for _, n := range []int{math.MinInt, math.MinInt + 1} {
		if got := field.Small(n).Bytes(); !bytes.Equal(got, small(int64(n))) {
			t.Errorf("Small of %d: %x", n, got)
		}
	}
}

// P304a: the zero Number is 0.
func TestZeroNumber(t *testing.T) {
	var zero field.Number
	if !bytes.Equal(zero.Bytes(), make([]byte, 32)) || zero != field.Small(0) || zero.Inverse() != zero {
		t.Error("it is not 0")
	}
	for _, b := range edges() {
		n := number(t, b)
		if n.Plus(zero) != n || zero.Plus(n) != n || n.Minus(zero) != n || n.Times(zero) != zero || zero.Times(n) != zero {
			t.Errorf("with %x", b)
		}
		if !bytes.Equal(zero.Minus(n).Bytes(), canonical(new(big.Int).Neg(toBig(b)))) {
			t.Errorf("less %x", b)
		}
	}
}

// P304a: methods say what the calls of bytes say.
func TestMethodsAndCalls(t *testing.T) {
	all := slices.Concat(edges(), chances(20))
	for _, a := range all {
		n := number(t, a)
		canon, _ := field.Canon(a)
		inverse, _ := field.Inv(a)
		if !bytes.Equal(n.Bytes(), canon) || !bytes.Equal(n.Inverse().Bytes(), inverse) {
			t.Fatalf("%x", a)
		}
		for _, b := range all {
			m := number(t, b)
			add, _ := field.Add(a, b)
			sub, _ := field.Sub(a, b)
			mul, _ := field.Mul(a, b)
			if !bytes.Equal(n.Plus(m).Bytes(), add) || !bytes.Equal(n.Minus(m).Bytes(), sub) || !bytes.Equal(n.Times(m).Bytes(), mul) {
				t.Fatalf("%x and %x", a, b)
			}
		}
	}
}

// P304a: a Number is held whole: neither bytes that are spoilt nor a method that is called on it reach it.
func TestNumberIsHeldWhole(t *testing.T) {
	b := sample(9, 32)
	n := number(t, b)
	m := n
	want := n.Bytes()
	spoil(b)
	spoil(n.Bytes())
	n.Plus(field.Small(1))
	n.Minus(field.Small(1))
	n.Times(field.Small(2))
	n.Inverse()
	if !bytes.Equal(n.Bytes(), want) || n != m {
		t.Error("changed")
	}
	n = n.Plus(field.Small(1))
	if !bytes.Equal(m.Bytes(), want) {
		t.Error("a copy changed")
	}
}

// P304a: long rows of methods in a chance order, against the library's.
func TestLongRows(t *testing.T) {
	p := prime()
	starts := edges()
	for round := range int64(40) {
		chance := rand.New(rand.NewSource(round))
		var ours [4]field.Number
		var theirs [4]*big.Int
		for i := range ours {
			b := starts[chance.Intn(len(starts))]
			ours[i], theirs[i] = number(t, b), new(big.Int).Mod(toBig(b), p)
		}
		for step := range 500 {
			i, j, k := chance.Intn(4), chance.Intn(4), chance.Intn(4)
			x := new(big.Int)
			switch kind := chance.Intn(20); {
			case kind < 6:
				ours[k], theirs[k] = ours[i].Plus(ours[j]), x.Add(theirs[i], theirs[j])
			case kind < 12:
				ours[k], theirs[k] = ours[i].Minus(ours[j]), x.Sub(theirs[i], theirs[j])
			case kind < 19:
				ours[k], theirs[k] = ours[i].Times(ours[j]), x.Mul(theirs[i], theirs[j])
			case theirs[i].Sign() == 0:
				ours[k], theirs[k] = ours[i].Inverse(), x
			default:
				ours[k], theirs[k] = ours[i].Inverse(), x.ModInverse(theirs[i], p)
			}
			theirs[k].Mod(theirs[k], p)
			if !bytes.Equal(ours[k].Bytes(), toBytes(theirs[k])) {
				t.Fatalf("row %d, step %d: %x, not %x", round, step, ours[k].Bytes(), toBytes(theirs[k]))
			}
		}
	}
}

// P304a: the same sum again and again, which would pass any room that is left above a limb.
func TestManySums(t *testing.T) {
	top := number(t, toBytes(new(big.Int).Sub(prime(), big.NewInt(1))))
	sum, rest := top, field.Number{}
	want := big.NewInt(-1)
	for range 2000 {
		sum, rest = sum.Plus(sum), rest.Minus(top)
		want.Lsh(want, 1).Mod(want, prime())
		if !bytes.Equal(sum.Bytes(), toBytes(want)) {
			t.Fatalf("%x", sum.Bytes())
		}
	}
	if rest != field.Small(2000) {
		t.Errorf("%x", rest.Bytes())
	}
}

// P305: order, grouping, spreading, undoing.
func TestAField(t *testing.T) {
	all := slices.Concat(near(prime(), 1), near(power(256), 1), near(power(255), 1), near(new(big.Int), 2), chances(12))
	one := field.Small(1)
	for _, a := range all {
		n := number(t, a)
		for _, b := range all {
			m := number(t, b)
			if n.Plus(m) != m.Plus(n) || n.Times(m) != m.Times(n) {
				t.Fatalf("order of %x and %x", a, b)
			}
			if n.Plus(m).Minus(m) != n || n.Minus(m).Plus(m) != n {
				t.Fatalf("Sub does not undo Add of %x and %x", a, b)
			}
			if m != (field.Number{}) && (n.Times(m).Times(m.Inverse()) != n || m.Times(m.Inverse()) != one || m.Inverse().Inverse() != m) {
				t.Fatalf("Inv does not undo Mul of %x and %x", a, b)
			}
			for _, c := range all {
				k := number(t, c)
				if n.Plus(m).Plus(k) != n.Plus(m.Plus(k)) || n.Times(m).Times(k) != n.Times(m.Times(k)) {
					t.Fatalf("grouping of %x, %x and %x", a, b, c)
				}
				if n.Plus(m).Times(k) != n.Times(k).Plus(m.Times(k)) {
					t.Fatalf("spreading of %x and %x over %x", a, b, c)
				}
			}
		}
	}
}

// P306: the square of a number has a root; a Root's square times v is u.
func TestRootIsOne(t *testing.T) {
	for _, a := range slices.Concat(edges(), chances(40)) {
		for _, v := range [][]byte{small(1), small(2), small(-1), toBytes(prime()), sample(5, 32), sample(8, 32)} {
			square, _ := field.Mul(a, a)
			u, _ := field.Mul(square, v)
			x, ok, e := field.Root(u, v)
			if e != api.OK || !ok || len(x) != 32 || x[0]%2 != 0 {
				t.Fatalf("square of %x, v %x: %x, %v, error %d", a, v, x, ok, e)
			}
			back, _ := field.Mul(x, x)
			back, _ = field.Mul(back, v)
			if !bytes.Equal(back, u) {
				t.Fatalf("square of %x, v %x: %x is no root", a, v, x)
			}
			plus, _ := field.Canon(a)
			minus, _ := field.Sub(make([]byte, 32), a)
			if toBig(v).Cmp(prime()) != 0 && !bytes.Equal(x, plus) && !bytes.Equal(x, minus) {
				t.Fatalf("square of %x, v %x: %x is another root", a, v, x)
			}
		}
	}
}

// P307: the same mod p just if canonical bytes are the same; the same mod p is the same to every call.
func TestCanonical(t *testing.T) {
	p := prime()
	all := slices.Concat(edges(), patterns())
	for _, a := range all {
		x, _ := field.Canon(a)
		again, _ := field.Canon(x)
		if toBig(x).Cmp(p) >= 0 || !bytes.Equal(again, x) {
			t.Fatalf("Canon of %x: %x", a, x)
		}
		for _, b := range all {
			y, _ := field.Canon(b)
			rest := new(big.Int).Sub(toBig(a), toBig(b))
			same := rest.Mod(rest, p).Sign() == 0
			if bytes.Equal(x, y) != same || (number(t, a) == number(t, b)) != same {
				t.Fatalf("%x and %x", a, b)
			}
		}
	}
	other := sample(6, 32)
	for name, call := range calls() {
		for _, a := range near(p, 20) {
			low := canonical(toBig(a))
			if !alike(call(a, other), call(low, other)) || !alike(call(other, a), call(other, low)) {
				t.Fatalf("%s of %x and of the same number", name, a)
			}
		}
	}
}
