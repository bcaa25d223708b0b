package ladder_test

import (
	"bytes"
	"crypto/ecdh"
	"encoding/hex"
	"math/big"
	"math/rand"
	"slices"
	"testing"

	"synod/api"
	"synod/ladder"
)

// prime: 2^255 - 19.
func prime() *big.Int { return plus(power(255), -19) }

func power(n uint) *big.Int { return new(big.Int).Lsh(big.NewInt(1), n) }

func plus(n *big.Int, d int64) *big.Int { return new(big.Int).Add(n, big.NewInt(d)) }

// toBytes: 32 bytes of a number below 2^256, the lowest first, as it is.
func toBytes(n *big.Int) []byte {
	b := n.FillBytes(make([]byte, 32))
	slices.Reverse(b)
	return b
}

func small(n int64) []byte { return toBytes(big.NewInt(n)) }

func toBig(b []byte) *big.Int {
	b = bytes.Clone(b)
	slices.Reverse(b)
	return new(big.Int).SetBytes(b)
}

func fill(x byte) []byte { return bytes.Repeat([]byte{x}, 32) }

func sample(seed int64, n int) []byte {
	b := make([]byte, n)
	rand.New(rand.NewSource(seed)).Read(b)
	return b
}

func unhex(t *testing.T, s string) []byte {
	t.Helper()
	b, err := hex.DecodeString(s)
	if err != nil {
		t.Fatal(err)
	}
	return b
}

// withHighest: b with its highest bit set.
func withHighest(b []byte) []byte {
	b = bytes.Clone(b)
	b[31] |= 128
	return b
}

// smallOrder: the canonical u of each point that 8 times is the one without a u, on the curve or on its twist.
func smallOrder() [][]byte {
	one, _ := new(big.Int).SetString("325606250916557431795983626356110631294008115727848805560023387167927233504", 10)
	other, _ := new(big.Int).SetString("39382357235489614581723060781553021112529911719440698176882885853963445705823", 10)
	return [][]byte{small(0), small(1), toBytes(plus(prime(), -1)), toBytes(one), toBytes(other)}
}

// zeroPoints: all bytes whose product is zeros: those of small order, the two that have bytes which are not canonical, and each with the highest bit.
func zeroPoints() [][]byte {
	low := append(smallOrder(), toBytes(prime()), toBytes(plus(prime(), 1)))
	out := slices.Clone(low)
	for _, u := range low {
		out = append(out, withHighest(u))
	}
	return out
}

// notCanonical: p to 2^255 - 1.
func notCanonical() [][]byte {
	var out [][]byte
	for d := range int64(19) {
		out = append(out, toBytes(plus(prime(), d)))
	}
	return out
}

// points: zero points, edges, chance ones (of which about half are on the twist).
func points() [][]byte {
	out := slices.Concat(zeroPoints(), notCanonical(), [][]byte{fill(255), small(9), small(2), small(19), small(20)})
	for _, u := range notCanonical() {
		out = append(out, withHighest(u))
	}
	twice := new(big.Int).Lsh(prime(), 1)
	for d := int64(-20); d <= 20; d++ {
		out = append(out, toBytes(plus(twice, d)))
	}
	for i := range int64(100) {
		out = append(out, sample(i, 32))
	}
	return out
}

// keys: edges and chance ones.
func keys() [][]byte {
	out := [][]byte{fill(0), fill(1), fill(255), fill(0x55), fill(0xaa), small(7), small(8), small(9), toBytes(power(255)), toBytes(power(254))}
	for i := range int64(10) {
		out = append(out, sample(1000+i, 32))
	}
	return out
}

// want: Mul by the library, which answers an error in place of zeros.
func want(t *testing.T, k, u []byte) []byte {
	t.Helper()
	key, err := ecdh.X25519().NewPrivateKey(k)
	if err != nil {
		t.Fatal(err)
	}
	point, err := ecdh.X25519().NewPublicKey(u)
	if err != nil {
		t.Fatal(err)
	}
	b, err := key.ECDH(point)
	if err != nil {
		return fill(0)
	}
	return b
}

func mul(t *testing.T, k, u []byte) []byte {
	t.Helper()
	b, e := ladder.Mul(k, u)
	if e != api.OK || len(b) != 32 {
		t.Fatalf("Mul of %x and %x: %d bytes, error %d", k, u, len(b), e)
	}
	return b
}

func public(t *testing.T, k []byte) []byte {
	t.Helper()
	b, e := ladder.Public(k)
	if e != api.OK || len(b) != 32 {
		t.Fatalf("Public of %x: %d bytes, error %d", k, len(b), e)
	}
	return b
}

func clamp(t *testing.T, k []byte) []byte {
	t.Helper()
	b, e := ladder.Clamp(k)
	if e != api.OK || len(b) != 32 {
		t.Fatalf("Clamp of %x: %d bytes, error %d", k, len(b), e)
	}
	return b
}

// call: one of the package's, of its lists.
type call struct {
	name  string
	lists int
	do    func(l [][]byte) ([]byte, api.Errno)
}

func calls() []call {
	one := func(f func([]byte) ([]byte, api.Errno)) func([][]byte) ([]byte, api.Errno) {
		return func(l [][]byte) ([]byte, api.Errno) { return f(l[0]) }
	}
	two := func(f func(k, u []byte) ([]byte, api.Errno)) func([][]byte) ([]byte, api.Errno) {
		return func(l [][]byte) ([]byte, api.Errno) { return f(l[0], l[1]) }
	}
	return []call{
		{"Clamp", 1, one(ladder.Clamp)},
		{"Mul", 2, two(ladder.Mul)},
		{"Public", 1, one(ladder.Public)},
		{"Shared", 2, two(ladder.Shared)},
	}
}

// good: lists that the call takes.
func (c call) good(seed int64) [][]byte {
	return [][]byte{sample(seed, 32), sample(seed+100, 32)}[:c.lists]
}

// P501: bytes that are not 32, in each place of each call, whatever stands in the other one.
func TestOtherLengths(t *testing.T) {
	for _, c := range calls() {
		for _, n := range []int{0, 1, 16, 31, 33, 63, 64, 96, 255, 256, 288, api.MaxBytes, api.MaxBytes + 32} {
			for place := range c.lists {
				for _, bad := range [][]byte{make([]byte, n), sample(1, n), append(sample(1, 32), 1)[:min(n, 33)]} {
					if len(bad) == 32 {
						continue
					}
					l := c.good(3)
					l[place] = bad
					refused(t, c, l)
					for i := range l {
						l[i] = bad
					}
					refused(t, c, l)
				}
			}
		}
		for place := range c.lists {
			l := c.good(3)
			l[place] = nil
			refused(t, c, l)
		}
		refused(t, c, make([][]byte, c.lists))
	}
}

func refused(t *testing.T, c call, l [][]byte) {
	t.Helper()
	if b, e := c.do(l); e != api.ErrArg || len(b) != 0 {
		t.Fatalf("%s: %d bytes, error %d", c.name, len(b), e)
	}
}

// P501: ErrArg of a key also where the point would be ErrPoint.
func TestWrongKeyAndZeroPoint(t *testing.T) {
	for _, u := range zeroPoints() {
		if b, e := ladder.Shared(fill(1)[:31], u); e != api.ErrArg || len(b) != 0 {
			t.Errorf("%x: %d bytes, error %d", u, len(b), e)
		}
	}
}

// P501: what is handed in is not changed, nor the room behind it, and that room has no weight.
func TestHandedInIsNotChanged(t *testing.T) {
	for _, c := range calls() {
		for i := range int64(10) {
			l := c.good(i)
			if i == 0 {
				// All bits that Clamp and Mul take away are set.
				l = [][]byte{fill(255), fill(255)}[:c.lists]
			}
			want, wantE := c.do(l)
			var whole, before, roomy, cut [][]byte
			for j := range l {
				whole = append(whole, append(bytes.Clone(l[j]), sample(int64(j), 100)...))
				before = append(before, bytes.Clone(whole[j]))
				roomy = append(roomy, whole[j][:32])
				cut = append(cut, whole[j][:31])
			}
			if got, e := c.do(roomy); !bytes.Equal(got, want) || e != wantE {
				t.Fatalf("%s hangs on the room behind", c.name)
			}
			refused(t, c, cut)
			if !slices.EqualFunc(whole, before, bytes.Equal) {
				t.Fatalf("%s: changed", c.name)
			}
		}
	}
	for _, u := range zeroPoints() {
		k, before := fill(255), bytes.Clone(u)
		ladder.Shared(k, u)
		if !bytes.Equal(k, fill(255)) || !bytes.Equal(u, before) {
			t.Fatalf("Shared of %x: changed", before)
		}
	}
}

// P501: one list in both places is no more than two lists of the same bytes.
func TestOneListForBoth(t *testing.T) {
	for _, k := range keys() {
		if got := mul(t, k, k); !bytes.Equal(got, mul(t, bytes.Clone(k), bytes.Clone(k))) || !bytes.Equal(got, want(t, k, k)) {
			t.Errorf("Mul of %x twice", k)
		}
	}
}

func spoil(b []byte) {
	b = b[:cap(b)]
	for i := range b {
		b[i] ^= 0xff
	}
}

// P501: what is answered is new memory, the room behind it too; the same is answered again.
func TestAnswersAreNewMemory(t *testing.T) {
	for _, c := range calls() {
		for i := range int64(10) {
			l, before := c.good(i), c.good(i)
			if i == 0 {
				// Clamp has nothing to do: it answers what came in.
				l[0], before[0] = clamp(t, l[0]), clamp(t, l[0])
			}
			one, _ := c.do(l)
			want := bytes.Clone(one)
			two, _ := c.do(l)
			spoil(one)
			again, _ := c.do(l)
			if !bytes.Equal(two, want) || !bytes.Equal(again, want) {
				t.Fatalf("%s: two answers share memory", c.name)
			}
			if !slices.EqualFunc(l, before, bytes.Equal) {
				t.Fatalf("%s: an answer shares memory with an argument", c.name)
			}
		}
	}
}

// P502: the chapter's example.
func TestExample(t *testing.T) {
	if got := public(t, fill(1)); !bytes.Equal(got[:4], []byte{164, 224, 146, 146}) {
		t.Errorf("Public of 32 bytes 1: %v", got)
	}
}

// P502: all bits 0, all bits 1, and each bit alone.
func TestClamp(t *testing.T) {
	zeros, ones := fill(0), fill(255)
	zeros[31], ones[0], ones[31] = 64, 248, 127
	if got := clamp(t, fill(0)); !bytes.Equal(got, zeros) {
		t.Errorf("of 0: %v", got)
	}
	if got := clamp(t, fill(255)); !bytes.Equal(got, ones) {
		t.Errorf("of 255: %v", got)
	}
	for i := range 256 {
		k, want := fill(0), bytes.Clone(zeros)
		k[i/8] |= 1 << (i % 8)
		if i > 2 && i < 254 {
			want[i/8] |= 1 << (i % 8)
		}
		if got := clamp(t, k); !bytes.Equal(got, want) {
			t.Errorf("of bit %d: %v", i, got)
		}
		k, want = fill(255), bytes.Clone(ones)
		k[i/8] &^= 1 << (i % 8)
		if i > 2 && i < 254 {
			want[i/8] &^= 1 << (i % 8)
		}
		if got := clamp(t, k); !bytes.Equal(got, want) {
			t.Errorf("of all but bit %d: %v", i, got)
		}
	}
}

// P502: what is clamped stays as it is.
func TestClampTwice(t *testing.T) {
	for _, k := range keys() {
		if once := clamp(t, k); !bytes.Equal(clamp(t, once), once) {
			t.Errorf("of %x", k)
		}
	}
}

// P502: RFC 7748's.
func TestVectors(t *testing.T) {
	for _, c := range [][3]string{
		{"a546e36bf0527c9d3b16154b82465edd62144c0ac1fc5a18506a2244ba449ac4", "e6db6867583030db3594c1a424b15f7c726624ec26b3353b10a903a6d0ab1c4c", "c3da55379de9c6908e94ea4df28d084f32eccf03491c71f754b4075577a28552"},
		{"4b66e9d4d1b4673c5ad22691957d6af5c11b6421e0ea01d42ca4169e7918ba0d", "e5210f12786811d3f4b7959d0538ae2c31dbe7106fc03c3efc4cd549c715a493", "95cbde9476e8907d7aade45cb4b873f88b595a68799fa152e6f8f7647aac7957"},
	} {
		if got := mul(t, unhex(t, c[0]), unhex(t, c[1])); !bytes.Equal(got, unhex(t, c[2])) {
			t.Errorf("%x, not %s", got, c[2])
		}
	}
}

// P502: RFC 7748's row, in which each answer is the next key and each key the next point.
func TestRow(t *testing.T) {
	k, u := small(9), small(9)
	for i := range 1000 {
		k, u = mul(t, k, u), k
		if i == 0 && !bytes.Equal(k, unhex(t, "422c8e7a6227d7bca1350b3e2bb7279f7897b87bb6854b783c60e80311ae3079")) {
			t.Fatalf("once: %x", k)
		}
	}
	if !bytes.Equal(k, unhex(t, "684cf59ba83309552800ef566f2f4d3c1c3887c49360e3875f2eb94d99532c51")) {
		t.Errorf("1000 times: %x", k)
	}
}

// P502: against the library, at each key with each point; all answers are canonical.
func TestMul(t *testing.T) {
	p := prime()
	for _, k := range keys() {
		for _, u := range points() {
			got := mul(t, k, u)
			if !bytes.Equal(got, want(t, k, u)) {
				t.Fatalf("Mul of %x and %x: %x, not %x", k, u, got, want(t, k, u))
			}
			if toBig(got).Cmp(p) >= 0 {
				t.Fatalf("Mul of %x and %x is not canonical: %x", k, u, got)
			}
		}
	}
}

// P502: Public is Mul of k and 9, and what the library says.
func TestPublic(t *testing.T) {
	for _, k := range keys() {
		key, err := ecdh.X25519().NewPrivateKey(k)
		if err != nil {
			t.Fatal(err)
		}
		got := public(t, k)
		if !bytes.Equal(got, mul(t, k, small(9))) || !bytes.Equal(got, key.PublicKey().Bytes()) {
			t.Errorf("of %x: %x", k, got)
		}
	}
}

// P502: every bit of a key but those that Clamp sets has weight.
func TestEveryBitOfKey(t *testing.T) {
	k := sample(5, 32)
	seen := map[string]int{string(public(t, k)): -1}
	for i := 3; i < 254; i++ {
		other := bytes.Clone(k)
		other[i/8] ^= 1 << (i % 8)
		got := string(public(t, other))
		if at, there := seen[got]; there {
			t.Fatalf("bits %d and %d", at, i)
		}
		seen[got] = i
	}
}

// P502: Mul of a point of small order is zeros without an error, Shared is ErrPoint.
func TestZeroPoints(t *testing.T) {
	for _, u := range zeroPoints() {
		for _, k := range keys() {
			if got := mul(t, k, u); !bytes.Equal(got, fill(0)) {
				t.Fatalf("Mul of %x and %x: %x", k, u, got)
			}
			if b, e := ladder.Shared(k, u); e != api.ErrPoint || len(b) != 0 {
				t.Fatalf("Shared of %x and %x: %d bytes, error %d", k, u, len(b), e)
			}
		}
	}
}

// P502: the bytes next to those of small order are no such points; nor is 2 p, which without its highest bit is p - 19.
func TestNextToZeroPoints(t *testing.T) {
	k := sample(1, 32)
	near := [][]byte{small(2), toBytes(plus(prime(), -2)), toBytes(plus(prime(), 2))}
	twice := new(big.Int).Lsh(prime(), 1)
	for d := int64(-1); d <= 1; d++ {
		near = append(near, toBytes(plus(twice, d)))
	}
	for _, u := range smallOrder()[3:] {
		for d := int64(-2); d <= 2; d++ {
			if d != 0 {
				near = append(near, toBytes(plus(toBig(u), d)))
			}
		}
	}
	for _, u := range near {
		if b, e := ladder.Shared(k, u); e != api.OK || !bytes.Equal(b, mul(t, k, u)) {
			t.Errorf("Shared of %x: %x, error %d", u, b, e)
		}
	}
}

// P502: Shared is Mul where that is not zeros.
func TestShared(t *testing.T) {
	for _, k := range keys()[:6] {
		for _, u := range points() {
			want, wantE := mul(t, k, u), api.OK
			if bytes.Equal(want, fill(0)) {
				want, wantE = nil, api.ErrPoint
			}
			if got, e := ladder.Shared(k, u); e != wantE || !bytes.Equal(got, want) {
				t.Fatalf("of %x and %x: %x, error %d", k, u, got, e)
			}
		}
	}
}

// opposites: clamped keys of which one undoes the other at points of the order L.
func opposites() (a, b []byte) {
	l, _ := new(big.Int).SetString("27742317777372353535851937790883648493", 10)
	l.Add(l, power(252))
	for i := int64(0); ; i++ {
		a, _ = ladder.Clamp(sample(i, 32))
		n := new(big.Int).ModInverse(toBig(a), l)
		for ; n.BitLen() < 256; n.Add(n, l) {
			if b, _ = ladder.Clamp(toBytes(n)); toBig(b).Cmp(n) == 0 {
				return a, b
			}
		}
	}
}

// P502: a product of which one byte alone is not 0, wherever that stands, is not zeros.
func TestNearlyZeros(t *testing.T) {
	a, b := opposites()
	for place := range 32 {
		found := false
		for x := byte(2); x < 100 && !found; x++ {
			nearly := fill(0)
			nearly[place] = x
			u := mul(t, a, nearly)
			if found = bytes.Equal(want(t, b, u), nearly); !found {
				continue // of another order
			}
			if got, e := ladder.Shared(b, u); e != api.OK || !bytes.Equal(got, nearly) {
				t.Errorf("%x: %x, error %d", nearly, got, e)
			}
		}
		if !found {
			t.Errorf("no point at byte %d", place)
		}
	}
}

// P503: RFC 7748's one with the other one's.
func TestAgreedVector(t *testing.T) {
	k := unhex(t, "5dab087e624a8a4b79e17f8b83800ee66f3bb1292618b6fd1c2f8b27ff88e0eb")
	u := unhex(t, "8520f0098930a754748b7ddcb43ef75a0dbf3a0d26381af4eba4a98eaa9b4e6a")
	want := unhex(t, "4a5d9d5ba4ce2de1728e3bf480350f25e07e21c947d19e3376f09b3c1e161742")
	if got, e := ladder.Shared(k, u); e != api.OK || !bytes.Equal(got, want) {
		t.Errorf("%x, error %d", got, e)
	}
}

// P503: the same both ways, at each two keys, and at one that is its own partner.
func TestAgreed(t *testing.T) {
	all := keys()
	var told [][]byte
	for _, k := range all {
		told = append(told, public(t, k))
	}
	for i, a := range all {
		for j, b := range all {
			one, e := ladder.Shared(a, told[j])
			other, e2 := ladder.Shared(b, told[i])
			if e != api.OK || e2 != api.OK || len(one) != 32 || !bytes.Equal(one, other) {
				t.Fatalf("keys %x and %x: %x and %x, errors %d and %d", a, b, one, other, e, e2)
			}
		}
	}
}

// P503: three who hand on what they have agree, too: the order of the keys has no weight.
func TestAgreedByThree(t *testing.T) {
	a, b, c := sample(1, 32), sample(2, 32), sample(3, 32)
	want := mul(t, a, mul(t, b, public(t, c)))
	if !bytes.Equal(mul(t, b, mul(t, c, public(t, a))), want) || !bytes.Equal(mul(t, c, mul(t, a, public(t, b))), want) {
		t.Error("three do not agree")
	}
}

// P504: each choice of the five bits that Clamp sets.
func TestBitsThatClampSets(t *testing.T) {
	for _, k := range keys() {
		wantPublic, wantMul := public(t, k), mul(t, k, sample(7, 32))
		for choice := range 32 {
			other := bytes.Clone(k)
			other[0] = other[0]&^7 | byte(choice&7)
			other[31] = other[31]&^192 | byte(choice>>3<<6)
			if !bytes.Equal(public(t, other), wantPublic) || !bytes.Equal(mul(t, other, sample(7, 32)), wantMul) {
				t.Fatalf("%x and %x", k, other)
			}
			if !bytes.Equal(clamp(t, other), clamp(t, k)) {
				t.Fatalf("Clamp of %x and %x", k, other)
			}
		}
	}
}

// P504: u's highest bit.
func TestHighestBitOfPoint(t *testing.T) {
	for i, u := range points() {
		k := sample(int64(i), 32)
		other := bytes.Clone(u)
		other[31] ^= 128
		if !bytes.Equal(mul(t, k, u), mul(t, k, other)) {
			t.Fatalf("Mul of %x and %x", k, u)
		}
		one, e := ladder.Shared(k, u)
		two, e2 := ladder.Shared(k, other)
		if !bytes.Equal(one, two) || e != e2 {
			t.Fatalf("Shared of %x and %x: errors %d and %d", k, u, e, e2)
		}
	}
}

// P504: p to 2^255 - 1 are 0 to 18, with the highest bit, too.
func TestNotCanonicalPoints(t *testing.T) {
	for i, u := range notCanonical() {
		for _, k := range keys() {
			want := mul(t, k, small(int64(i)))
			if !bytes.Equal(mul(t, k, u), want) || !bytes.Equal(mul(t, k, withHighest(u)), want) {
				t.Fatalf("Mul of %x and p + %d", k, i)
			}
		}
	}
}
