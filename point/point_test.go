package point_test

import (
	"bytes"
	"crypto/ed25519"
	"crypto/sha512"
	"math/big"
	"slices"
	"testing"

	"synod/api"
	"synod/point"
)

func decode(t *testing.T, b []byte) point.Point {
	t.Helper()
	p, e := point.Decode(b)
	if e != api.OK {
		t.Fatalf("Decode of %x: error %d", b, e)
	}
	return p
}

func times(t *testing.T, p point.Point, n *big.Int) point.Point {
	t.Helper()
	q, e := p.Times(toBytes(n))
	if e != api.OK {
		t.Fatalf("Times %d: error %d", n, e)
	}
	return q
}

// check: that got is want, by its bytes and by Same.
func check(t *testing.T, what string, got, want point.Point) {
	t.Helper()
	if !bytes.Equal(got.Encode(), want.Encode()) || !got.Same(want) || !want.Same(got) {
		t.Fatalf("%s: %x, not %x", what, got.Encode(), want.Encode())
	}
}

func checkPlace(t *testing.T, what string, got point.Point, want place) {
	t.Helper()
	if !bytes.Equal(got.Encode(), want.bytes()) {
		t.Fatalf("%s: %x, not %x", what, got.Encode(), want.bytes())
	}
}

// somePoints: those of small order, the base and chance ones, each as Decode gives it and as a sum gives it; the zero Point.
func somePoints(t *testing.T) []point.Point {
	t.Helper()
	out := []point.Point{{}, point.Zero(), point.Base(), point.Base().Neg()}
	shift := point.Base().Plus(point.Base())
	for _, b := range slices.Concat(smallOrder(), chancePoints(6)) {
		p := decode(t, b)
		out = append(out, p, p.Plus(shift).Plus(shift.Neg()))
	}
	return out
}

// notCanonical: p to 2^255 - 1.
func notCanonical() [][]byte {
	var out [][]byte
	for d := range int64(19) {
		out = append(out, toBytes(plus(prime(), d)))
	}
	return out
}

// P602: the chapter's examples.
func TestExamples(t *testing.T) {
	if got := point.Base().Encode(); !bytes.Equal(got, append([]byte{88}, bytes.Repeat([]byte{102}, 31)...)) {
		t.Errorf("Base: %v", got)
	}
	if got := point.Zero().Encode(); !bytes.Equal(got, append([]byte{1}, make([]byte, 31)...)) {
		t.Errorf("Zero: %v", got)
	}
}

// P602, P603: bytes that are not 32; the point beside an error is the zero one.
func TestOtherLengths(t *testing.T) {
	lists := [][]byte{nil, {}}
	for _, n := range []int{1, 16, 31, 33, 63, 64, 96, 255, 256, 288, api.MaxBytes, api.MaxBytes + 32} {
		lists = append(lists, make([]byte, n), sample(1, n))
	}
	for _, extra := range []byte{0, 1} {
		lists = append(lists, append(point.Base().Encode(), extra), append(point.Zero().Encode(), extra))
	}
	lists = append(lists, point.Base().Encode()[:31], point.Zero().Encode()[:31])
	for _, b := range lists {
		if p, e := point.Decode(b); e != api.ErrArg || p != (point.Point{}) {
			t.Errorf("Decode of %d bytes: error %d", len(b), e)
		}
		for _, p := range []point.Point{{}, point.Zero(), point.Base()} {
			if q, e := p.Times(b); e != api.ErrArg || q != (point.Point{}) {
				t.Errorf("Times of %d bytes: error %d", len(b), e)
			}
		}
	}
}

func checkNoPoint(t *testing.T, b []byte) {
	t.Helper()
	if p, e := point.Decode(b); e != api.ErrPoint || p != (point.Point{}) {
		t.Errorf("Decode of %x: error %d", b, e)
	}
}

// P602: y from p to 2^255 - 1, of which some would be points as 0 to 18.
func TestNotCanonical(t *testing.T) {
	would := 0
	for d, b := range notCanonical() {
		checkNoPoint(t, b)
		checkNoPoint(t, withHighest(b))
		if _, ok := placeOf(small(int64(d))); ok {
			would++
			decode(t, small(int64(d)))
		}
	}
	if would < 5 {
		t.Errorf("only %d of them", would)
	}
	checkNoPoint(t, bytes.Repeat([]byte{255}, 32))
}

// P602: where x is 0 the highest bit is never set.
func TestZeroXWithHighestBit(t *testing.T) {
	for _, y := range []*big.Int{big.NewInt(1), plus(prime(), -1)} {
		b := toBytes(y)
		if got := decode(t, b).Encode(); !bytes.Equal(got, b) {
			t.Errorf("%x", got)
		}
		checkNoPoint(t, withHighest(b))
	}
}

// P602: y without an x, and y with one, as the chapter's equation says, with both highest bits.
func TestDecode(t *testing.T) {
	var all [][]byte
	for n := range int64(100) {
		all = append(all, small(n), toBytes(plus(prime(), -1-n)), sample(n, 32))
	}
	points := 0
	for _, b := range all {
		for _, b := range [][]byte{b, withHighest(b)} {
			want, ok := placeOf(b)
			if !ok {
				checkNoPoint(t, b)
				continue
			}
			points++
			p := decode(t, b)
			checkPlace(t, "Decode", p, want)
			// Bytes tell only whether x is odd: a sum tells the whole of it.
			checkPlace(t, "Plus", p.Plus(point.Base()), want.plus(basePlace()))
		}
	}
	if points < 200 || points > 400 {
		t.Errorf("%d points of 600", points)
	}
	checkNoPoint(t, small(2))
}

// P602, P605: Encode of what Decode answers is the bytes, Decode of Encode is the point.
func TestThereAndBack(t *testing.T) {
	for _, b := range slices.Concat(smallOrder(), chancePoints(50)) {
		p := decode(t, b)
		if got := p.Encode(); !bytes.Equal(got, b) {
			t.Fatalf("%x: %x", b, got)
		}
	}
	for _, p := range somePoints(t) {
		for _, q := range []point.Point{p, p.Neg(), p.Plus(p), p.Plus(point.Base()), times(t, p, big.NewInt(77))} {
			b := q.Encode()
			back := decode(t, b)
			check(t, "back", back, q)
			check(t, "back and the base", back.Plus(point.Base()), q.Plus(point.Base()))
			if len(b) != 32 || !bytes.Equal(back.Encode(), b) {
				t.Fatalf("%x", b)
			}
		}
	}
}

// P602, P604, P605: the eight points of small order: there and back, and their sums, which are among them.
func TestSmallOrder(t *testing.T) {
	all := smallOrder()
	for _, known := range [][]byte{small(0), withHighest(small(0)), small(1), toBytes(plus(prime(), -1))} {
		if !slices.ContainsFunc(all, func(b []byte) bool { return bytes.Equal(b, known) }) {
			t.Errorf("%x is not among them", known)
		}
	}
	for i, a := range all {
		p := decode(t, a)
		if !bytes.Equal(p.Encode(), a) {
			t.Fatalf("%x", a)
		}
		check(t, "Neg", p.Neg(), decode(t, all[(8-i)%8]))
		check(t, "8 times", times(t, p, big.NewInt(8)), point.Zero())
		for j, b := range all {
			q := decode(t, b)
			check(t, "sum", p.Plus(q), decode(t, all[(i+j)%8]))
			if p.Same(q) != (i == j) {
				t.Fatalf("Same of %d and %d", i, j)
			}
		}
		for _, n := range numbers() {
			at := new(big.Int).Mul(n, big.NewInt(int64(i)))
			check(t, "Times", times(t, p, n), decode(t, all[at.Mod(at, big.NewInt(8)).Int64()]))
		}
	}
}

// P601: the zero Point is Zero, in each call.
func TestZeroPoint(t *testing.T) {
	var nothing point.Point
	zero := point.Zero()
	check(t, "Zero", nothing, zero)
	if b := nothing.Encode(); !bytes.Equal(b, small(1)) {
		t.Errorf("Encode: %x", b)
	}
	check(t, "Decode", decode(t, small(1)), nothing)
	check(t, "Neg", nothing.Neg(), zero)
	check(t, "Neg twice", nothing.Neg().Neg(), zero)
	check(t, "Plus", nothing.Plus(nothing), zero)
	check(t, "Plus Zero", nothing.Plus(zero), zero)
	check(t, "Zero Plus", zero.Plus(nothing), zero)
	for _, n := range numbers() {
		check(t, "Times", times(t, nothing, n), zero)
		check(t, "Zero Times", times(t, zero, n), zero)
	}
	if !nothing.Same(nothing) || !nothing.Same(zero) || !zero.Same(nothing) {
		t.Error("Same")
	}
	for _, p := range somePoints(t)[2:] {
		check(t, "p and nothing", p.Plus(nothing), p)
		check(t, "nothing and p", nothing.Plus(p), p)
		if is := bytes.Equal(p.Encode(), small(1)); p.Same(nothing) != is || nothing.Same(p) != is {
			t.Errorf("Same of %x", p.Encode())
		}
	}
}

// P602, P603: the base is where the chapter says; its whole x, too, is the even one.
func TestBase(t *testing.T) {
	want := basePlace()
	checkPlace(t, "Base", point.Base(), want)
	check(t, "Decode", decode(t, want.bytes()), point.Base())
	sum := point.Base()
	for range 40 {
		sum, want = sum.Plus(point.Base()), want.plus(basePlace())
		checkPlace(t, "Plus", sum, want)
	}
}

// P603: against the chapter's formula, at each two points, which are Decoded or sums themselves.
func TestPlus(t *testing.T) {
	all := somePoints(t)
	var places []place
	for _, p := range all {
		at, ok := placeOf(p.Encode())
		if !ok {
			t.Fatalf("%x", p.Encode())
		}
		places = append(places, at)
	}
	for i, p := range all {
		for j, q := range all {
			want := places[i].plus(places[j])
			checkPlace(t, "Plus", p.Plus(q), want)
			checkPlace(t, "Plus, and again", p.Plus(q).Plus(q), want.plus(places[j]))
		}
	}
}

// P603: -x and y.
func TestNeg(t *testing.T) {
	for _, p := range somePoints(t) {
		at, _ := placeOf(p.Encode())
		want := place{rest(new(big.Int).Neg(at.x)), at.y}
		checkPlace(t, "Neg", p.Neg(), want)
		checkPlace(t, "Neg and the base", p.Neg().Plus(point.Base()), want.plus(basePlace()))
		check(t, "Neg twice", p.Neg().Neg(), p)
	}
}

// P603: against the chapter's sums, at the edges and at chance numbers.
func TestTimes(t *testing.T) {
	for _, b := range append(chancePoints(2), basePlace().bytes()) {
		at, _ := placeOf(b)
		for _, n := range numbers() {
			checkPlace(t, "Times", times(t, decode(t, b), n), at.times(n))
		}
	}
}

// P603: what the chapter's edges come to, by sums alone.
func TestTimesAtEdges(t *testing.T) {
	for _, p := range somePoints(t) {
		check(t, "0", times(t, p, big.NewInt(0)), point.Zero())
		check(t, "1", times(t, p, big.NewInt(1)), p)
		check(t, "2", times(t, p, big.NewInt(2)), p.Plus(p))
		check(t, "3", times(t, p, big.NewInt(3)), p.Plus(p).Plus(p))
		highest := p
		for range 255 {
			highest = highest.Plus(highest)
		}
		check(t, "2^255", times(t, p, power(255)), highest)
		check(t, "2^256 - 1", times(t, p, plus(power(256), -1)), highest.Plus(highest).Plus(p.Neg()))
	}
}

// P603: each of the 256 bits counts, at its own place.
func TestEachBit(t *testing.T) {
	for _, b := range append(chancePoints(1), basePlace().bytes()) {
		p := decode(t, b)
		want := p
		for i := range uint(256) {
			check(t, "bit", times(t, p, power(i)), want)
			want = want.Plus(want)
		}
	}
}

// P603: each four bits at each place.
func TestEachFourBits(t *testing.T) {
	p := decode(t, chancePoints(1)[0])
	unit := p
	for place := range uint(64) {
		var want point.Point
		for digit := range int64(16) {
			check(t, "digit", times(t, p, new(big.Int).Lsh(big.NewInt(digit), 4*place)), want)
			want = want.Plus(unit)
		}
		unit = want
	}
}

// P603: against the library's Ed25519, whose public key is a multiple of the base.
func TestKeysOfLibrary(t *testing.T) {
	for i := range int64(50) {
		seed := sample(i, 32)
		h := sha512.Sum512(seed)
		n := h[:32]
		n[0] &= 248
		n[31] = n[31]&127 | 64
		p, e := point.Base().Times(n)
		if want := ed25519.NewKeyFromSeed(seed)[32:]; e != api.OK || !bytes.Equal(p.Encode(), want) {
			t.Fatalf("%x, error %d, not %x", p.Encode(), e, want)
		}
	}
}

// P603: Same is whether the bytes are the same, at each two points; of some only x, of others only y differs.
func TestSame(t *testing.T) {
	half := decode(t, toBytes(plus(prime(), -1)))
	var all []point.Point
	for _, p := range somePoints(t) {
		all = append(all, p, p.Neg(), p.Plus(half), p.Plus(half).Neg())
	}
	for _, p := range all {
		for _, q := range all {
			if p.Same(q) != bytes.Equal(p.Encode(), q.Encode()) {
				t.Fatalf("%x and %x: %v", p.Encode(), q.Encode(), p.Same(q))
			}
		}
	}
}

// P603: one point by many ways.
func TestSameByDifferentSums(t *testing.T) {
	for _, p := range somePoints(t) {
		two := p.Plus(p)
		four := two.Plus(two)
		ways := []point.Point{
			two.Plus(two).Plus(p),
			p.Plus(p).Plus(p).Plus(p).Plus(p),
			p.Plus(p.Plus(p.Plus(p.Plus(p)))),
			times(t, p, big.NewInt(5)),
			times(t, p, big.NewInt(8)).Plus(times(t, p, big.NewInt(3)).Neg()),
			times(t, four, big.NewInt(2)).Plus(p.Neg()).Plus(two.Neg()),
			decode(t, four.Plus(p).Encode()),
		}
		for _, a := range ways {
			for _, b := range ways {
				check(t, "ways", a, b)
			}
			if a.Same(four) != bytes.Equal(p.Encode(), small(1)) {
				t.Fatalf("5 and 4 times %x", p.Encode())
			}
		}
	}
}

// P604: order and grouping have no weight; Zero changes nothing; p and its Neg are Zero.
func TestGroup(t *testing.T) {
	all := somePoints(t)
	for i, p := range all {
		check(t, "p and Zero", p.Plus(point.Zero()), p)
		check(t, "Zero and p", point.Zero().Plus(p), p)
		check(t, "p and Neg", p.Plus(p.Neg()), point.Zero())
		check(t, "Neg and p", p.Neg().Plus(p), point.Zero())
		for j, q := range all {
			check(t, "order", p.Plus(q), q.Plus(p))
			check(t, "Neg of a sum", p.Plus(q).Neg(), p.Neg().Plus(q.Neg()))
			r := all[(3*i+5*j+1)%len(all)]
			check(t, "grouping", p.Plus(q).Plus(r), p.Plus(q.Plus(r)))
		}
	}
}

// P604: Times of a sum of numbers is the sum, up to 2^256 - 1.
func TestTimesOfSums(t *testing.T) {
	top := plus(power(256), -1)
	for i, p := range somePoints(t) {
		if i%4 != 1 && i != 0 && i != 2 {
			continue
		}
		for j, n := range numbers() {
			others := []*big.Int{new(big.Int).Sub(top, n), toBig(sample(int64(i*100+j), 16)), big.NewInt(1), n}
			for _, m := range others {
				sum := new(big.Int).Add(n, m)
				if sum.Cmp(top) > 0 {
					continue
				}
				check(t, "sum", times(t, p, sum), times(t, p, n).Plus(times(t, p, m)))
			}
		}
	}
}

// P604: Times of a sum of points is the sum; Times of Times is that of the product.
func TestTimesOfPoints(t *testing.T) {
	all := somePoints(t)
	for i, p := range all {
		q, n := all[(i+3)%len(all)], toBig(sample(int64(i), 32))
		check(t, "points", times(t, p.Plus(q), n), times(t, p, n).Plus(times(t, q, n)))
		check(t, "Neg", times(t, p.Neg(), n), times(t, p, n).Neg())
		a, b := toBig(sample(int64(i), 16)), toBig(sample(int64(i+50), 16))
		check(t, "product", times(t, times(t, p, a), b), times(t, p, new(big.Int).Mul(a, b)))
	}
}

// P606: the base's order, and what is next to it. Of the numbers below L that divide 8 L none is the order.
func TestOrder(t *testing.T) {
	base, l := point.Base(), order()
	check(t, "L", times(t, base, l), point.Zero())
	check(t, "L - 1", times(t, base, plus(l, -1)), base.Neg())
	check(t, "L + 1", times(t, base, plus(l, 1)), base)
	for n := int64(2); n < 16; n++ {
		check(t, "multiples of L", times(t, base, new(big.Int).Mul(l, big.NewInt(n))), point.Zero())
	}
	for _, n := range []int64{1, 2, 4, 8} {
		if times(t, base, big.NewInt(n)).Same(point.Zero()) {
			t.Errorf("%d times", n)
		}
	}
	for i := range int64(10) {
		n := toBig(sample(i, 32))
		check(t, "mod L", times(t, base, n), times(t, base, new(big.Int).Mod(n, l)))
	}
}

// P606 is of the base: of other points the number is not taken mod L.
func TestOrderOfOthers(t *testing.T) {
	p := decode(t, smallOrder()[1])
	five := p.Plus(p).Plus(p).Plus(p).Plus(p)
	check(t, "L", times(t, p, order()), five)
	q := p.Plus(point.Base())
	check(t, "L of a sum", times(t, q, order()), five)
	check(t, "8 L", times(t, q, new(big.Int).Lsh(order(), 3)), point.Zero())
}

// P601: the bytes that are handed in are not changed, nor the room behind them, and that room has no weight.
func TestBytesAreNotChanged(t *testing.T) {
	lists := append(smallOrder(), chancePoints(3)...)
	lists = append(lists, bytes.Repeat([]byte{255}, 32), small(2), withHighest(small(1)))
	for i, b := range lists {
		whole := append(bytes.Clone(b), sample(int64(i), 100)...)
		before := bytes.Clone(whole)
		wantP, wantE := point.Decode(b)
		p, e := point.Decode(whole[:32])
		wantQ, _ := point.Base().Times(b)
		q, _ := point.Base().Times(whole[:32])
		if e != wantE || !p.Same(wantP) || !q.Same(wantQ) {
			t.Fatalf("%x hangs on the room behind", b)
		}
		point.Decode(whole[:31])
		point.Base().Times(whole[:31])
		if !bytes.Equal(whole, before) {
			t.Fatalf("%x is changed", b)
		}
	}
}

// P601: bytes are not kept.
func TestBytesAreNotKept(t *testing.T) {
	for _, b := range chancePoints(3) {
		mine := bytes.Clone(b)
		p := decode(t, mine)
		q, _ := point.Base().Times(mine)
		want := q.Encode()
		clear(mine)
		if !bytes.Equal(p.Encode(), b) || !bytes.Equal(q.Encode(), want) {
			t.Fatalf("%x is kept", b)
		}
	}
}

// P601: no call changes a point.
func TestPointsAreNotChanged(t *testing.T) {
	all := somePoints(t)
	n := sample(1, 32)
	for _, p := range all {
		for _, q := range all {
			a, b := p, q
			a.Plus(b)
			a.Neg()
			a.Same(b)
			a.Encode()
			a.Times(n)
			a.Times(nil)
			if a != p || b != q {
				t.Fatalf("%x or %x is changed", p.Encode(), q.Encode())
			}
		}
	}
}

// P601: pure functions: the same again, with memory of its own, the room behind it too.
func TestAnswersAreNewMemory(t *testing.T) {
	for _, p := range somePoints(t) {
		one, two := p.Encode(), p.Encode()
		want := bytes.Clone(one)
		one = one[:cap(one)]
		for i := range one {
			one[i] ^= 255
		}
		if !bytes.Equal(two, want) || !bytes.Equal(p.Encode(), want) {
			t.Fatalf("%x shares memory", want)
		}
		n := sample(3, 32)
		a, _ := p.Times(n)
		b, _ := p.Times(n)
		if a != b || p.Plus(a) != p.Plus(a) || p.Neg() != p.Neg() || point.Base() != point.Base() || point.Zero() != point.Zero() {
			t.Fatalf("%x: another answer", want)
		}
	}
}
