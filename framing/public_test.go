package framing_test

import (
	"bytes"
	"slices"
	"testing"

	"synod/api"
	"synod/framing"
)

// checkGot: GetPublic of b is s and the tag.
func checkGot(t *testing.T, b []byte, s framing.Signed, tag []byte) {
	t.Helper()
	got, told, e := framing.GetPublic(b)
	if e != api.OK || !sameSigned(got, s) || !bytes.Equal(told, tag) {
		t.Fatalf("%s: %s, %x, error %d, not %s, %x", short(b), short(got), told, e, short(s), tag)
	}
}

func checkNotGot(t *testing.T, b []byte) {
	t.Helper()
	got, tag, e := framing.GetPublic(b)
	if e != api.ErrForm || len(tag) != 0 || !sameSigned(got, framing.Signed{}) {
		t.Fatalf("%s: %s, %x, error %d", short(b), short(got), tag, e)
	}
}

// tagOf: one of nobody, for one from a Member.
func tagOf(s framing.Signed) []byte {
	if s.Content.From == framing.Member {
		return sample(8, 32)
	}
	return nil
}

func publics() []framing.Signed { return goes(signeds(), framing.Public) }

// P1803: Tag of all that are Public and may be, also of one who joins; secrets and contexts of all lengths.
func TestTag(t *testing.T) {
	for i, s := range publics() {
		for _, n := range []int{0, 1, 31, 32, 33, 64, 65, 200} {
			member, context := sample(int64(n), n), sample(int64(i), (i+n)%7*333)
			b, e := framing.Tag(s, member, context)
			checkBytes(t, s, b, e, slowTag(s, member, context), api.OK)
		}
		context := sample(1, mostContext)
		b, e := framing.Tag(s, nil, context)
		checkBytes(t, s, b, e, slowTag(s, nil, context), api.OK)
	}
}

// P1803: each part has weight for the Tag.
func TestTagHangsOnAll(t *testing.T) {
	for _, s := range goes(baseSigneds(), framing.Public) {
		member, context := sample(1, 32), sample(2, 50)
		seen := map[string]string{}
		check := func(what string, s framing.Signed, member, context []byte) {
			t.Helper()
			b, e := framing.Tag(s, member, context)
			if other, ok := seen[string(b)]; ok || e != api.OK || len(b) != 32 {
				t.Fatalf("%s and %s: %x, error %d", what, other, b, e)
			}
			seen[string(b)] = what
		}
		check("as it is", s, member, context)
		for bit := range 8 * 32 {
			check("a bit of the secret", s, flipped(member, bit), context)
		}
		for bit := range 8 * 50 {
			check("a bit of the context", s, member, flipped(context, bit))
		}
		for i, list := range signedLists(&s) {
			for bit := range 8 * len(*list) {
				other := s
				*signedLists(&other)[i] = flipped(*list, bit)
				check("a bit of the message", other, member, context)
			}
		}
		check("another epoch", with(s, func(s *framing.Signed) { s.Content.Epoch++ }), member, context)
	}
}

// P1803: PutPublic of all that are Public and may be, and back.
func TestPublic(t *testing.T) {
	for i, s := range publics() {
		member, context := sample(int64(i), i%70), sample(int64(i), i%7*333)
		b, e := framing.PutPublic(s, member, context)
		var tag []byte
		if s.Content.From == framing.Member {
			tag = slowTag(s, member, context)
		}
		checkBytes(t, s, b, e, slowPublic(s, tag), api.OK)
		checkGot(t, b, s, tag)
		checkGot(t, slowPublic(s, tagOf(s)), s, tagOf(s))
	}
}

// P1803: what is not Public, or may not be: ErrArg, ahead of ErrSize; ErrSize of contexts, also from one who joins, where no tag is put.
func TestPutPublicRefused(t *testing.T) {
	for _, s := range slices.Concat(badSigneds(), goes(signeds(), framing.Private)) {
		for _, n := range []int{0, mostContext + 1} {
			b, e := framing.PutPublic(s, sample(1, 32), make([]byte, n))
			checkBytes(t, s, b, e, nil, api.ErrArg)
			b, e = framing.Tag(s, sample(1, 32), make([]byte, n))
			checkBytes(t, s, b, e, nil, api.ErrArg)
		}
	}
	for _, s := range goes(baseSigneds(), framing.Public) {
		for _, n := range longContexts {
			b, e := framing.PutPublic(s, sample(1, 32), make([]byte, n))
			checkBytes(t, n, b, e, nil, api.ErrSize)
			b, e = framing.Tag(s, sample(1, 32), make([]byte, n))
			checkBytes(t, n, b, e, nil, api.ErrSize)
		}
	}
}

// inBytes: numbers that a message's fields can hold.
func inBytes(c framing.Content) bool {
	return c.Epoch >= 0 && c.From >= 0 && c.From < 256 && c.Leaf >= 0 && c.Leaf < 1<<32 && c.Kind >= 0 && c.Kind < 256 && (c.From == framing.Member || c.Leaf == 0)
}

// P1803: what may not be, written all the same.
func TestGetPublicOfBadOnes(t *testing.T) {
	for _, s := range slices.Concat(badSigneds(), goes(signeds(), framing.Private)) {
		if inBytes(s.Content) && (s.Content.Kind == framing.Commit || len(s.Confirm) == 0) && (s.Wire == framing.Public || s.Content.Kind == framing.Words) {
			checkNotGot(t, slowPublic(s, tagOf(s)))
		}
	}
	for _, s := range goes(baseSigneds(), framing.Public) {
		for _, n := range lengths(32) {
			if s.Content.From == framing.Member {
				checkNotGot(t, slowPublic(s, make([]byte, n)))
			}
		}
	}
}

// P1803: no tag of a Member's, and a tag of one who joins.
func TestGetPublicOfTags(t *testing.T) {
	for _, s := range goes(baseSigneds(), framing.Public) {
		b := slowPublic(s, tagOf(s))
		if s.Content.From == framing.Member {
			checkNotGot(t, b[:len(b)-33])
			checkNotGot(t, append(b[:len(b):len(b)], slowVector(tagOf(s))...))
		} else {
			checkNotGot(t, append(b, slowVector(sample(8, 32))...))
			checkNotGot(t, append(b, 0))
		}
	}
}

// P1803: a Confirm that is there where none stands, and one that is not where one does.
func TestGetPublicOfConfirms(t *testing.T) {
	for _, s := range goes(baseSigneds(), framing.Public) {
		body, signature, confirm, tag := slowContent(s.Content), slowVector(s.Signature), slowVector(sample(5, 32)), slowVector(tagOf(s))
		if s.Content.From == framing.Joining {
			tag = nil
		}
		head := []byte{0, 1, 0, 1}
		if s.Content.Kind == framing.Commit {
			checkGot(t, slices.Concat(head, body, signature, confirm, tag), s, tagOf(s))
			checkNotGot(t, slices.Concat(head, body, signature, confirm, confirm, tag))
			checkNotGot(t, slices.Concat(head, body, signature, []byte{0}, tag))
			checkNotGot(t, slices.Concat(head, body, signature))
		} else {
			checkNotGot(t, slices.Concat(head, body, signature, confirm, tag))
			checkNotGot(t, slices.Concat(head, body, signature, []byte{0}, tag))
		}
		if s.Content.From == framing.Member {
			checkNotGot(t, slices.Concat(head, body, signature, confirm, []byte{0}))
		}
	}
}

// P1803: no bytes, bytes that end too early at each place, bytes behind, bytes ahead.
func TestGetPublicOfOtherLengths(t *testing.T) {
	for _, s := range goes(baseSigneds(), framing.Public) {
		b := slowPublic(s, tagOf(s))
		for n := range b {
			checkNotGot(t, b[:n])
			checkNotGot(t, b[n+1:])
		}
		for _, x := range []byte{0, 1, 32, 255} {
			checkNotGot(t, append(bytes.Clone(b), x))
			checkNotGot(t, append([]byte{x}, b...))
		}
		checkNotGot(t, append(bytes.Clone(b), b...))
		checkNotGot(t, append(bytes.Clone(b), make([]byte, 2*api.MaxBytes)...))
	}
	checkNotGot(t, nil)
	for n := range 300 {
		for _, x := range []byte{0, 1, 2, 32, 64, 128, 255} {
			checkNotGot(t, bytes.Repeat([]byte{x}, n))
		}
	}
}

// P1803: each version, each way.
func TestGetPublicOfVersions(t *testing.T) {
	for _, s := range goes(baseSigneds(), framing.Public) {
		b := slowPublic(s, tagOf(s))
		for _, at := range []int{0, 2} {
			for n := range 1 << 16 {
				if copy(b[at:], inTwo(n)); n == 1 {
					checkGot(t, b, s, tagOf(s))
				} else {
					checkNotGot(t, b)
				}
			}
			copy(b[at:], inTwo(1))
		}
	}
}

// P1803: each From and each Kind that a byte can say, the rest being what stands behind it.
func TestGetPublicOfKinds(t *testing.T) {
	for _, base := range goes(baseSigneds(), framing.Public) {
		for from := range 256 {
			for kind := range 256 {
				s := base
				s.Content.From, s.Content.Kind = from, kind
				if from != framing.Member {
					s.Content.Leaf = 0
				}
				s = signed(s.Content, framing.Public)
				member, joins := from == framing.Member, from == framing.Joining
				if kind == framing.Commit && (member || joins) || kind == framing.Proposal && member {
					checkGot(t, slowPublic(s, tagOf(s)), s, tagOf(s))
				} else {
					checkNotGot(t, slowPublic(s, tagOf(s)))
				}
			}
		}
	}
}

// longer: the vector of b, its length in so many bytes, 2 or 4, more than it needs.
func longer(b []byte, size int) []byte {
	if size == 2 {
		return slices.Concat(inTwo(0x4000|len(b)), b)
	}
	return slices.Concat(inFour(0x80000000|len(b)), b)
}

// checkLonger: each of some vectors, which stand between other bytes, with a length of more bytes than it needs; parts: by turns a list of other bytes, and what a vector holds.
func checkLonger(t *testing.T, parts [][]byte, good []byte, no func(t *testing.T, b []byte)) {
	t.Helper()
	for odd := 1; odd < len(parts)+2; odd += 2 {
		for _, size := range []int{2, 4} {
			var b []byte
			for i, part := range parts {
				switch {
				case i%2 == 0:
					b = append(b, part...)
				case i == odd && (size == 4 || len(part) < 64):
					b = append(b, longer(part, size)...)
				default:
					b = append(b, slowVector(part)...)
				}
			}
			if odd > len(parts) && !bytes.Equal(b, good) {
				t.Fatalf("other parts: %x, not %x", b, good)
			}
			if !bytes.Equal(b, good) {
				no(t, b)
			}
		}
	}
}

// P1803: each length in more bytes than it needs.
func TestGetPublicOfLongerLengths(t *testing.T) {
	for _, s := range goes(baseSigneds(), framing.Public) {
		c := s.Content
		from := []byte{framing.Joining}
		if c.From == framing.Member {
			from = append([]byte{framing.Member}, inFour(c.Leaf)...)
		}
		parts := [][]byte{{0, 1, 0, 1}, c.Group, append(inEight(c.Epoch), from...), c.More, {byte(c.Kind)}, c.Body, nil, s.Signature}
		if c.Kind == framing.Commit {
			parts = append(parts, nil, s.Confirm)
		}
		if c.From == framing.Member {
			parts = append(parts, nil, tagOf(s))
		}
		checkLonger(t, parts, slowPublic(s, tagOf(s)), checkNotGot)
	}
}

// P3, P1803: good bytes with a byte changed, taken out or put in: those that are got are put the same, by the words.
func TestPublicBackAndThere(t *testing.T) {
	got := 0
	check := func(b []byte) {
		t.Helper()
		s, tag, e := framing.GetPublic(b)
		switch {
		case e == api.OK:
			got++
			if !bytes.Equal(slowPublic(s, tag), b) {
				t.Fatalf("%x: got as %s", b, short(s))
			}
			if _, e := framing.Input(s); e != api.OK || s.Wire != framing.Public || (len(tag) == 32) != (s.Content.From == framing.Member) {
				t.Fatalf("%x: got as %s, which may not be", b, short(s))
			}
		case e != api.ErrForm || len(tag) != 0 || !sameSigned(s, framing.Signed{}):
			t.Fatalf("%x: %s, %x, error %d", b, short(s), tag, e)
		}
	}
	for i, s := range goes(baseSigneds(), framing.Public) {
		good := slowPublic(s, tagOf(s))
		for at := range good {
			for x := range 256 {
				b := bytes.Clone(good)
				b[at] = byte(x)
				check(b)
			}
			check(slices.Delete(bytes.Clone(good), at, at+1))
			check(slices.Insert(bytes.Clone(good), at, sample(int64(i+at), 1)[0]))
		}
	}
	if got < 10000 {
		t.Errorf("only %d of the changed ones were got", got)
	}
	for i := range int64(20000) {
		check(append([]byte{0, 1, 0, 1}, sample(i, int(i%300))...))
	}
}
