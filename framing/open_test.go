package framing_test

import (
	"bytes"
	"slices"
	"testing"

	"synod/api"
	"synod/framing"
)

// checkWho: that leaf, generation and guard.
func checkWho(t *testing.T, what any, x framing.Sealed, secret []byte, leaf, gen int, guard []byte) {
	t.Helper()
	l, g, b, e := framing.Who(x, secret)
	if e != api.OK || l != leaf || g != gen || !bytes.Equal(b, guard) {
		t.Fatalf("%s: %d, %d, %x, error %d, not %d, %d, %x", short(what), l, g, b, e, leaf, gen, guard)
	}
}

func checkNobody(t *testing.T, what any, x framing.Sealed, secret []byte, want api.Errno) {
	t.Helper()
	leaf, gen, guard, e := framing.Who(x, secret)
	if e != want || leaf != 0 || gen != 0 || len(guard) != 0 {
		t.Fatalf("%s: %d, %d, %x, error %d, not %d", short(what), leaf, gen, guard, e, want)
	}
}

// checkOpen: x, of that leaf, is opened as s, or is refused with that error.
func (l letter) checkOpen(t *testing.T, what any, x framing.Sealed, leaf int, s framing.Signed, want api.Errno) {
	t.Helper()
	got, e := framing.Open(x, leaf, l.key, l.nonce, l.guard)
	checkSigned(t, what, got, e, s, want)
}

// checkInner: the letter, with that inner text, is opened as s, or is refused with that error.
func (l letter) checkInner(t *testing.T, inner []byte, s framing.Signed, want api.Errno) {
	t.Helper()
	l.inner = inner
	l.checkOpen(t, inner, l.sealed(t), s.Content.Leaf, s, want)
}

func (l letter) checkNoInner(t *testing.T, inner []byte) {
	t.Helper()
	l.checkInner(t, inner, framing.Signed{}, api.ErrForm)
}

// P1805: all that are Private and may be, sealed by the words: who sent it, and what.
func TestOpen(t *testing.T) {
	for i, s := range privates() {
		gen := i * 0x01234567 % mostGen
		l := letterOf(s, gen, i%7*100)
		x := l.sealed(t)
		checkWho(t, s, x, l.secret, s.Content.Leaf, gen, l.guard)
		l.checkOpen(t, s, x, s.Content.Leaf, s, api.OK)
	}
}

// P1805: each leaf, and generations at their edges.
func TestWho(t *testing.T) {
	l := letterOf(content0(), 0, 0)
	for leaf := range api.MaxLeaves {
		for _, gen := range []int{0, 1, 255, 1 << 16, 1<<31 - 1, 1 << 31, mostGen} {
			l.origin = slices.Concat(inFour(leaf), inFour(gen), l.guard)
			checkWho(t, leaf, l.sealed(t), l.secret, leaf, gen, l.guard)
		}
	}
}

// P1805: a sender's text that says a leaf which may not be; Open is told the leaf by its caller, and has no need of it.
func TestWhoOfOtherLeaves(t *testing.T) {
	l := letterOf(content0(), 0, 0)
	for _, leaf := range []int{api.MaxLeaves, api.MaxLeaves + 1, 127, 128, 255, 256, 1<<16 + 1, 1<<24 + 1, 1<<31 - 1, 1 << 31, 1<<32 - 1} {
		for _, gen := range []int{0, 1, mostGen} {
			l.origin = slices.Concat(inFour(leaf), inFour(gen), l.guard)
			checkNobody(t, leaf, l.sealed(t), l.secret, api.ErrOpen)
			l.checkOpen(t, leaf, l.sealed(t), 5, content0(), api.OK)
		}
	}
}

// P1805: bodies that are shorter than a sample, or just one.
func TestWhoOfShortBodies(t *testing.T) {
	for n := range 40 {
		l := letterOf(content0(), 9, 0)
		l.inner = sample(int64(n), n)
		x := l.sealed(t)
		if len(x.Body) != n+16 {
			t.Fatal(len(x.Body))
		}
		checkWho(t, n, x, l.secret, 5, 9, l.guard)
		l.checkOpen(t, n, x, 5, framing.Signed{}, api.ErrForm)
	}
}

// P1805: ErrArg of what may not be, ahead of all else, of Who and of Open.
func TestOpenRefused(t *testing.T) {
	for _, s := range goes(baseSigneds(), framing.Private) {
		l := letterOf(s, 1, 0)
		good := l.sealed(t)
		none := framing.Signed{}
		for _, x := range badSealeds(good) {
			checkNobody(t, x, x, l.secret, api.ErrArg)
			checkNobody(t, x, x, nil, api.ErrArg)
			l.checkOpen(t, x, x, 5, none, api.ErrArg)
		}
		broken := with(good, func(x *framing.Sealed) { x.Sender, x.Body = make([]byte, 28), make([]byte, 16) })
		for _, x := range []framing.Sealed{good, broken} {
			for _, n := range lengths(32) {
				checkNobody(t, n, x, make([]byte, n), api.ErrArg)
			}
			for _, n := range lengths(16) {
				with(l, func(l *letter) { l.key = make([]byte, n) }).checkOpen(t, n, x, 5, none, api.ErrArg)
			}
			for _, n := range lengths(12) {
				with(l, func(l *letter) { l.nonce = make([]byte, n) }).checkOpen(t, n, x, 5, none, api.ErrArg)
			}
			for _, n := range append(lengths(4), 2, 3, 5, 8) {
				with(l, func(l *letter) { l.guard = make([]byte, n) }).checkOpen(t, n, x, 5, none, api.ErrArg)
			}
			for _, leaf := range noNumbers(0, api.MaxLeaves-1) {
				l.checkOpen(t, leaf, x, leaf, none, api.ErrArg)
			}
		}
	}
}

// P1805: each leaf that may be is the one that it is from.
func TestOpenOfLeaves(t *testing.T) {
	s := content0()
	l := letterOf(s, 1, 0)
	x := l.sealed(t)
	for leaf := range api.MaxLeaves {
		s.Content.Leaf = leaf
		l.checkOpen(t, leaf, x, leaf, s, api.OK)
	}
}

// P1805: each bit of what was sealed: of the sender, of the body (to Who only as far as the sample goes), and of what was told openly (More has no part in the sender's text).
func TestSealedOtherwise(t *testing.T) {
	for _, s := range goes(baseSigneds(), framing.Private) {
		l := letterOf(s, 3, 2)
		good := l.sealed(t)
		check := func(what any, who, body bool, change func(x *framing.Sealed)) {
			t.Helper()
			x := with(good, change)
			if who {
				checkWho(t, what, x, l.secret, 5, 3, l.guard)
			} else {
				checkNobody(t, what, x, l.secret, api.ErrOpen)
			}
			if body {
				l.checkOpen(t, what, x, 5, s, api.OK)
			} else {
				l.checkOpen(t, what, x, 5, framing.Signed{}, api.ErrOpen)
			}
		}
		check("as it was", true, true, func(*framing.Sealed) {})
		for bit := range 8 * 28 {
			check(bit, false, true, func(x *framing.Sealed) { x.Sender = flipped(x.Sender, bit) })
		}
		for bit := range 8 * len(good.Body) {
			check(bit, bit >= 8*32, false, func(x *framing.Sealed) { x.Body = flipped(x.Body, bit) })
		}
		for bit := range 8 * len(good.Group) {
			check(bit, false, false, func(x *framing.Sealed) { x.Group = flipped(x.Group, bit) })
		}
		for bit := range 8 * len(good.More) {
			check(bit, true, false, func(x *framing.Sealed) { x.More = flipped(x.More, bit) })
		}
		for bit := range 32 {
			check(bit, false, false, func(x *framing.Sealed) { x.Epoch ^= 1 << bit })
		}
		check("Kind", false, false, func(x *framing.Sealed) { x.Kind = x.Kind%3 + 1 })
		check("Group", false, false, func(x *framing.Sealed) { x.Group = nil })
		check("More", true, false, func(x *framing.Sealed) { x.More = nil })
		check("both", false, false, func(x *framing.Sealed) { x.Sender, x.Body = make([]byte, 28), make([]byte, 16) })
		check("a longer body", true, false, func(x *framing.Sealed) { x.Body = append(bytes.Clone(x.Body), 0) })
		check("a shorter body", true, false, func(x *framing.Sealed) { x.Body = x.Body[:len(x.Body)-1] })
	}
}

// P1805: other secrets, keys, nonces and guards.
func TestOtherKeys(t *testing.T) {
	for _, s := range goes(baseSigneds(), framing.Private) {
		l := letterOf(s, 3, 2)
		x := l.sealed(t)
		for bit := range 8 * 32 {
			checkNobody(t, bit, x, flipped(l.secret, bit), api.ErrOpen)
		}
		for i, list := range [][]byte{l.key, l.nonce, l.guard} {
			for bit := range 8 * len(list) {
				other := l
				*[]*[]byte{&other.key, &other.nonce, &other.guard}[i] = flipped(list, bit)
				other.checkOpen(t, bit, x, 5, framing.Signed{}, api.ErrOpen)
			}
		}
		other := l
		other.nonce, other.guard = slowGuarded(l.nonce, l.guard), make([]byte, 4)
		other.checkOpen(t, "the guard in the nonce", x, 5, s, api.OK)
	}
}

// P1805: inner texts that end too early, at each byte; with no body, no ending.
func TestInnerTextsThatEnd(t *testing.T) {
	for _, s := range goes(baseSigneds(), framing.Private) {
		l := letterOf(s, 1, 0)
		l.checkInner(t, l.inner, s, api.OK)
		for n := range l.inner {
			l.checkNoInner(t, l.inner[:n])
			l.checkNoInner(t, l.inner[n+1:])
		}
		for _, n := range []int{1, 2, 65, 66, 67, 98, 99, 100, 1000} {
			l.checkNoInner(t, make([]byte, n))
		}
	}
}

// P1805: zeros alone behind, however many; anything else at each place among them.
func TestPadding(t *testing.T) {
	for _, s := range goes(baseSigneds(), framing.Private) {
		l := letterOf(s, 1, 0)
		room := api.MaxBytes - 16 - len(l.inner)
		for _, n := range []int{0, 1, 2, 32, 33, 999, 1000, 1001, 40000, room} {
			l.checkInner(t, append(bytes.Clone(l.inner), make([]byte, n)...), s, api.OK)
		}
		for n := range 40 {
			for at := range n {
				for _, x := range []byte{1, 32, 128, 255} {
					inner := append(bytes.Clone(l.inner), make([]byte, n)...)
					inner[len(l.inner)+at] = x
					l.checkNoInner(t, inner)
				}
			}
		}
		inner := append(bytes.Clone(l.inner), make([]byte, room)...)
		inner[len(inner)-1] = 1
		l.checkNoInner(t, inner)
	}
}

// P1805: bodies, signatures and Confirms of other lengths, and Confirms where none stands.
func TestInnerTextsThatMayNotBe(t *testing.T) {
	for _, s := range goes(baseSigneds(), framing.Private) {
		l := letterOf(s, 1, 0)
		check := func(change func(s *framing.Signed)) {
			t.Helper()
			bad := with(s, change)
			l.checkNoInner(t, append(slowVector(bad.Content.Body), slowEnding(bad)...))
			l.checkNoInner(t, slices.Concat(slowVector(bad.Content.Body), slowEnding(bad), make([]byte, 100)))
		}
		for _, n := range []int{mostBody + 1, mostBody + 2, 50000, 60000} {
			check(func(s *framing.Signed) { s.Content.Body = sample(1, n) })
		}
		for _, n := range lengths(64) {
			if n < 60000 {
				check(func(s *framing.Signed) { s.Signature = sample(1, n) })
			}
		}
		for _, n := range lengths(32) {
			if s.Content.Kind == framing.Commit && n < 60000 {
				check(func(s *framing.Signed) { s.Confirm = sample(1, n) })
			}
		}
		if s.Content.Kind != framing.Commit {
			l.checkNoInner(t, append(bytes.Clone(l.inner), slowVector(sample(5, 32))...))
			l.checkNoInner(t, append(bytes.Clone(l.inner), slowVector(make([]byte, 32))...))
		}
	}
}

// P1805: each length in an inner text in more bytes than it needs.
func TestInnerTextsOfLongerLengths(t *testing.T) {
	for _, s := range goes(baseSigneds(), framing.Private) {
		l := letterOf(s, 1, 0)
		parts := [][]byte{nil, s.Content.Body, nil, s.Signature}
		if s.Content.Kind == framing.Commit {
			parts = append(parts, nil, s.Confirm)
		}
		checkLonger(t, parts, l.inner, func(t *testing.T, inner []byte) {
			t.Helper()
			l.checkNoInner(t, inner)
		})
	}
}

// P1806: GetPublic of PutPublic is the message, and its tag Tag.
func TestPublicThereAndBack(t *testing.T) {
	for i, s := range publics() {
		member, context := sample(int64(i), 32), sample(int64(i), i%2001)
		b, e := framing.PutPublic(s, member, context)
		tag, f := framing.Tag(s, member, context)
		if e != api.OK || f != api.OK {
			t.Fatal(e, f)
		}
		if s.Content.From == framing.Joining {
			tag = nil
		}
		checkGot(t, b, s, tag)
	}
}

// P1806, P1807: Who and Open of GetPrivate of PutPrivate tell who sent it, and what; what was signed is verified there.
func TestPrivateThereAndBack(t *testing.T) {
	for i, s := range privates() {
		if i%4 != 0 && len(s.Content.Body) == 40 {
			continue
		}
		seed, secret, key, nonce, guard, context := sample(int64(i), 32), sample(1, 32), sample(2, 16), sample(3, 12), sample(int64(i), 4), sample(int64(i), i*7)
		s, e := framing.Sign(seed, s.Content, framing.Private, context, s.Confirm)
		if e != api.OK {
			t.Fatal(e)
		}
		gen := i * 12345678 % mostGen
		b, e := framing.PutPrivate(s, secret, key, nonce, gen, guard, i*11%1001)
		if e != api.OK {
			t.Fatal(e)
		}
		x, e := framing.GetPrivate(b)
		if e != api.OK {
			t.Fatal(e)
		}
		checkWho(t, s, x, secret, s.Content.Leaf, gen, guard)
		got, e := framing.Open(x, s.Content.Leaf, key, nonce, guard)
		checkSigned(t, s, got, e, s, api.OK)
		checkVerify(t, s, slowPublicKey(seed), got, context, api.OK)
	}
}
