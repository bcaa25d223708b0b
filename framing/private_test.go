package framing_test

import (
	"bytes"
	"slices"
	"testing"

	"synod/api"
	"synod/framing"
)

// put: PutPrivate of s with what the letter is made of.
func (l letter) put(s framing.Signed, gen, pad int) ([]byte, api.Errno) {
	return framing.PutPrivate(s, l.secret, l.key, l.nonce, gen, l.guard, pad)
}

func checkSealed(t *testing.T, b []byte, want framing.Sealed) {
	t.Helper()
	if x, e := framing.GetPrivate(b); e != api.OK || !sameSealed(x, want) {
		t.Fatalf("%s: %s, error %d, not %s", short(b), short(x), e, short(want))
	}
}

func checkNotSealed(t *testing.T, b []byte) {
	t.Helper()
	if x, e := framing.GetPrivate(b); e != api.ErrForm || !sameSealed(x, framing.Sealed{}) {
		t.Fatalf("%s: %s, error %d", short(b), short(x), e)
	}
}

func privates() []framing.Signed { return goes(signeds(), framing.Private) }

// P1804: PutPrivate of all that are Private and may be, with generations and padding at their edges, by the words; and back.
func TestPrivate(t *testing.T) {
	gens := []int{0, 1, 7, 255, 256, 1<<16 + 3, 1<<24 + 5, 1<<31 - 1, 1 << 31, mostGen - 1, mostGen}
	pads := []int{0, 1, 2, 15, 16, 500, 999, 1000}
	for i, s := range privates() {
		gen, pad := gens[i%len(gens)], pads[i%len(pads)]
		l := letterOf(s, gen, pad)
		b, e := l.put(s, gen, pad)
		checkBytes(t, s, b, e, slowPrivate(l.sealed(t)), api.OK)
		checkSealed(t, b, l.sealed(t))
	}
	for _, s := range goes(baseSigneds(), framing.Private) {
		for _, gen := range gens {
			for _, pad := range pads {
				l := letterOf(s, gen, pad)
				b, e := l.put(s, gen, pad)
				checkBytes(t, s, b, e, slowPrivate(l.sealed(t)), api.OK)
			}
		}
	}
}

// P1804: keys, nonces, guards and secrets of zeros and of ones: so a guard that is none of the nonce's bytes changes just these.
func TestPrivateOfPlainKeys(t *testing.T) {
	for _, s := range goes(baseSigneds(), framing.Private) {
		for bits := range 16 {
			fill := func(bit, n int) []byte { return bytes.Repeat([]byte{byte(-(bits >> bit & 1))}, n) }
			l := letterOf(s, 3, 4)
			l.secret, l.key, l.nonce, l.guard = fill(0, 32), fill(1, 16), fill(2, 12), fill(3, 4)
			l.origin = append(l.origin[:8:8], l.guard...)
			b, e := l.put(s, 3, 4)
			checkBytes(t, s, b, e, slowPrivate(l.sealed(t)), api.OK)
		}
	}
}

// P1804: what is not Private, or may not be.
func TestPutPrivateOfBadOnes(t *testing.T) {
	for _, s := range slices.Concat(badSigneds(), publics()) {
		l := letterOf(content0(), 0, 0)
		b, e := l.put(s, 0, 0)
		checkBytes(t, s, b, e, nil, api.ErrArg)
	}
}

func content0() framing.Signed { return signed(content(framing.Words), framing.Private) }

// P1804: secrets, keys, nonces and guards of other lengths; generations and padding that may not be.
func TestPutPrivateRefused(t *testing.T) {
	for _, s := range goes(baseSigneds(), framing.Private) {
		check := func(what any, gen, pad int, change func(l *letter)) {
			t.Helper()
			b, e := with(letterOf(s, 0, 0), change).put(s, gen, pad)
			checkBytes(t, what, b, e, nil, api.ErrArg)
		}
		for _, n := range lengths(32) {
			check(n, 0, 0, func(l *letter) { l.secret = make([]byte, n) })
		}
		for _, n := range lengths(16) {
			check(n, 0, 0, func(l *letter) { l.key = make([]byte, n) })
		}
		for _, n := range lengths(12) {
			check(n, 0, 0, func(l *letter) { l.nonce = make([]byte, n) })
		}
		for _, n := range append(lengths(4), 2, 3, 5, 8) {
			check(n, 0, 0, func(l *letter) { l.guard = make([]byte, n) })
		}
		for _, gen := range noNumbers(0, mostGen) {
			check(gen, gen, 0, func(*letter) {})
		}
		for _, pad := range noNumbers(0, 1000) {
			check(pad, 0, pad, func(*letter) {})
		}
		check("all", -1, -1, func(l *letter) { l.secret, l.key, l.nonce, l.guard = nil, nil, nil, nil })
	}
}

// P1804: all that is sealed and may be.
func TestGetPrivate(t *testing.T) {
	for _, x := range sealeds() {
		checkSealed(t, slowPrivate(x), x)
	}
}

// P1804: what may not be, written all the same.
func TestGetPrivateOfBadOnes(t *testing.T) {
	for _, kind := range []int{framing.Words, framing.Proposal, framing.Commit} {
		x := letterOf(signed(content(kind), framing.Private), 1, 0).sealed(t)
		checkSealed(t, slowPrivate(x), x)
		for _, bad := range badSealeds(x) {
			if bad.Epoch >= 0 && bad.Kind >= 0 && bad.Kind < 256 {
				checkNotSealed(t, slowPrivate(bad))
			}
		}
	}
}

// P1804: no bytes, bytes that end too early at each place, bytes behind, bytes ahead.
func TestGetPrivateOfOtherLengths(t *testing.T) {
	for _, s := range goes(baseSigneds(), framing.Private) {
		b := slowPrivate(letterOf(s, 1, 0).sealed(t))
		for n := range b {
			checkNotSealed(t, b[:n])
			checkNotSealed(t, b[n+1:])
		}
		for _, x := range []byte{0, 1, 32, 255} {
			checkNotSealed(t, append(bytes.Clone(b), x))
			checkNotSealed(t, append([]byte{x}, b...))
		}
		checkNotSealed(t, append(bytes.Clone(b), b...))
		checkNotSealed(t, append(bytes.Clone(b), make([]byte, 2*api.MaxBytes)...))
	}
	checkNotSealed(t, nil)
	for n := range 300 {
		for _, x := range []byte{0, 1, 2, 28, 32, 64, 128, 255} {
			checkNotSealed(t, bytes.Repeat([]byte{x}, n))
		}
	}
}

// P1804: each version, each way, and each Kind.
func TestGetPrivateOfVersions(t *testing.T) {
	x := letterOf(content0(), 1, 0).sealed(t)
	b := slowPrivate(x)
	for at, right := range map[int]int{0: 1, 2: 2} {
		for n := range 1 << 16 {
			if copy(b[at:], inTwo(n)); n == right {
				checkSealed(t, b, x)
			} else {
				checkNotSealed(t, b)
			}
		}
		copy(b[at:], inTwo(right))
	}
	for kind := range 256 {
		x.Kind = kind
		if kind >= framing.Words && kind <= framing.Commit {
			checkSealed(t, slowPrivate(x), x)
		} else {
			checkNotSealed(t, slowPrivate(x))
		}
	}
}

// P1804: each length in more bytes than it needs.
func TestGetPrivateOfLongerLengths(t *testing.T) {
	for _, s := range goes(baseSigneds(), framing.Private) {
		for _, x := range []framing.Sealed{letterOf(s, 1, 0).sealed(t), {Kind: framing.Words, Sender: make([]byte, 28), Body: make([]byte, 16)}} {
			parts := [][]byte{{0, 1, 0, 2}, x.Group, append(inEight(x.Epoch), byte(x.Kind)), x.More, nil, x.Sender, nil, x.Body}
			checkLonger(t, parts, slowPrivate(x), checkNotSealed)
		}
	}
}

// P1803, P1804: neither kind of bytes is the other one.
func TestTheOtherKindOfBytes(t *testing.T) {
	for _, s := range publics() {
		checkNotSealed(t, slowPublic(s, tagOf(s)))
	}
	for _, x := range sealeds() {
		checkNotGot(t, slowPrivate(x))
	}
}

// P3, P1804: good bytes with a byte changed, taken out or put in: those that are got are put the same, by the words.
func TestPrivateBackAndThere(t *testing.T) {
	got := 0
	check := func(b []byte) {
		t.Helper()
		x, e := framing.GetPrivate(b)
		switch {
		case e == api.OK:
			got++
			if _, _, _, e := framing.Who(x, make([]byte, 32)); e != api.ErrOpen || !bytes.Equal(slowPrivate(x), b) {
				t.Fatalf("%x: got as %s, of which Who says %d", b, short(x), e)
			}
		case e != api.ErrForm || !sameSealed(x, framing.Sealed{}):
			t.Fatalf("%x: %s, error %d", b, short(x), e)
		}
	}
	for i, s := range goes(baseSigneds(), framing.Private) {
		good := slowPrivate(letterOf(s, 1, 0).sealed(t))
		for at := range good {
			for x := 0; x < 256; x += 3 {
				b := bytes.Clone(good)
				b[at] = byte(x + at%3)
				check(b)
			}
			check(slices.Delete(bytes.Clone(good), at, at+1))
			check(slices.Insert(bytes.Clone(good), at, sample(int64(i+at), 1)[0]))
		}
	}
	if got < 5000 {
		t.Errorf("only %d of the changed ones were got", got)
	}
	for i := range int64(20000) {
		check(append([]byte{0, 1, 0, 2}, sample(i, int(i%300))...))
	}
}
