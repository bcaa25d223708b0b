package framing_test

import (
	"bytes"
	"slices"
	"testing"

	"synod/api"
	"synod/framing"
)

// checkBytes: those, and that error; nothing beside an error.
func checkBytes(t *testing.T, what any, b []byte, e api.Errno, want []byte, wanted api.Errno) {
	t.Helper()
	if e != wanted || !bytes.Equal(b, want) {
		t.Fatalf("%s: %s, error %d, not %s, %d", short(what), short(b), e, short(want), wanted)
	}
}

// The chapter's example.
func TestExample(t *testing.T) {
	want := []byte{0, 0, 0, 0, 0, 0, 0, 0, 0, 1, 0, 0, 0, 0, 0, 1, 0}
	b, e := framing.PutContent(framing.Content{From: framing.Member, Kind: framing.Words})
	checkBytes(t, "the example", b, e, want, api.OK)
}

// The constants' numbers.
func TestNumbers(t *testing.T) {
	got := []int{framing.Member, framing.Joining, framing.Words, framing.Proposal, framing.Commit, framing.Public, framing.Private}
	if want := []int{1, 4, 1, 2, 3, 1, 2}; !slices.Equal(got, want) {
		t.Error(got, want)
	}
}

// P1802: contents with all bytes written out, of a member and of one who joins.
func TestContentsWrittenOut(t *testing.T) {
	c := framing.Content{Group: []byte("gr"), Epoch: 0x01020304, From: framing.Member, Leaf: 63, More: []byte("m"), Kind: framing.Proposal, Body: []byte("body")}
	b, e := framing.PutContent(c)
	checkBytes(t, c, b, e, []byte("\x02gr\x00\x00\x00\x00\x01\x02\x03\x04\x01\x00\x00\x00\x3f\x01m\x02\x04body"), api.OK)
	b, e = framing.Text(c, framing.Private, []byte("context"))
	checkBytes(t, c, b, e, []byte("\x00\x01\x00\x02\x02gr\x00\x00\x00\x00\x01\x02\x03\x04\x01\x00\x00\x00\x3f\x01m\x02\x04bodycontext"), api.OK)
	c.From, c.Leaf, c.Kind = framing.Joining, 0, framing.Commit
	b, e = framing.PutContent(c)
	checkBytes(t, c, b, e, []byte("\x02gr\x00\x00\x00\x00\x01\x02\x03\x04\x04\x01m\x03\x04body"), api.OK)
	s := framing.Signed{Content: c, Wire: framing.Public, Signature: bytes.Repeat([]byte{7}, 64), Confirm: make([]byte, 32)}
	b, e = framing.Input(s)
	checkBytes(t, s, b, e, append([]byte("\x00\x01\x02gr\x00\x00\x00\x00\x01\x02\x03\x04\x04\x01m\x03\x04body\x40\x40"), s.Signature...), api.OK)
}

// P1802: all contents that may be.
func TestPutContent(t *testing.T) {
	for _, c := range contents() {
		b, e := framing.PutContent(c)
		checkBytes(t, c, b, e, slowContent(c), api.OK)
	}
}

// P1801, P1802: contents that may not be: ErrArg, also of Text with a context that is too long.
func TestBadContents(t *testing.T) {
	for _, c := range badContents() {
		b, e := framing.PutContent(c)
		checkBytes(t, c, b, e, nil, api.ErrArg)
		for _, wire := range []int{framing.Public, framing.Private, 0} {
			for _, n := range []int{0, mostContext + 1} {
				b, e = framing.Text(c, wire, make([]byte, n))
				checkBytes(t, c, b, e, nil, api.ErrArg)
			}
		}
	}
}

// P1802: Text of all contents in both ways, also in one that they may not go in, and contexts at their edges.
func TestText(t *testing.T) {
	for _, c := range contents() {
		for _, wire := range []int{framing.Public, framing.Private} {
			for _, n := range []int{0, 1, 100, mostContext - 1, mostContext} {
				context := sample(int64(n), n)
				b, e := framing.Text(c, wire, context)
				checkBytes(t, c, b, e, slowText(c, wire, context), api.OK)
			}
		}
	}
}

// P1802: Text of ways that are none: ErrArg, ahead of ErrSize; ErrSize of contexts.
func TestTextRefused(t *testing.T) {
	for _, c := range bases() {
		for _, wire := range noNumbers(framing.Public, framing.Private) {
			for _, n := range []int{0, 1, mostContext, mostContext + 1, api.MaxBytes} {
				b, e := framing.Text(c, wire, make([]byte, n))
				checkBytes(t, wire, b, e, nil, api.ErrArg)
			}
		}
		for _, wire := range []int{framing.Public, framing.Private} {
			for _, n := range longContexts {
				b, e := framing.Text(c, wire, make([]byte, n))
				checkBytes(t, n, b, e, nil, api.ErrSize)
			}
		}
	}
}

var longContexts = []int{mostContext + 1, mostContext + 2, 2048, 16384, api.MaxBytes, api.MaxBytes + 1, 1<<16 + 5, 1 << 20}

// P1802: Input of all that may be.
func TestInput(t *testing.T) {
	for _, s := range signeds() {
		b, e := framing.Input(s)
		checkBytes(t, s, b, e, slices.Concat([]byte{0, byte(s.Wire)}, slowContent(s.Content), slowVector(s.Signature)), api.OK)
	}
}

// P1801, P1802: Input of what may not be.
func TestInputRefused(t *testing.T) {
	for _, s := range badSigneds() {
		b, e := framing.Input(s)
		checkBytes(t, s, b, e, nil, api.ErrArg)
	}
}

// likeContents: no two the same: lists of bytes that look like lengths, like kinds and like each other, so that one might be taken for the other.
func likeContents() []framing.Content {
	var lists [][]byte
	for _, n := range []int{0, 1, 2, 8, 13} {
		for _, x := range []byte{0, 1, 4} {
			if n > 0 || x == 0 {
				lists = append(lists, bytes.Repeat([]byte{x}, n))
			}
		}
	}
	var out []framing.Content
	for _, group := range lists {
		for _, more := range lists {
			for _, body := range lists {
				for _, epoch := range []int{0, 1, 1 << 24} {
					c := framing.Content{Group: group, Epoch: epoch, From: framing.Joining, More: more, Kind: framing.Commit, Body: body}
					out = append(out, c)
					for _, leaf := range []int{0, 1, 4} {
						for kind := framing.Words; kind <= framing.Commit; kind++ {
							c.From, c.Leaf, c.Kind = framing.Member, leaf, kind
							out = append(out, c)
						}
					}
				}
			}
		}
	}
	return out
}

// P1808: unlike contents have unlike bytes.
func TestUnlikeContents(t *testing.T) {
	seen := map[string]framing.Content{}
	for _, c := range slices.Concat(likeContents(), contents()) {
		b, e := framing.PutContent(c)
		if e != api.OK {
			t.Fatal(e)
		}
		if other, ok := seen[string(b)]; ok && !sameContent(c, other) {
			t.Fatalf("%s and %s: one text", short(c), short(other))
		}
		seen[string(b)] = c
	}
	if len(seen) < len(likeContents()) {
		t.Errorf("only %d unlike ones", len(seen))
	}
}

// P1808: each bit of a content has weight.
func TestEachBitOfAContentCounts(t *testing.T) {
	for _, c := range bases() {
		b, _ := framing.PutContent(c)
		for i, list := range contentLists(&c) {
			for bit := range 8 * len(*list) {
				other := c
				*contentLists(&other)[i] = flipped(*list, bit)
				if x, e := framing.PutContent(other); e != api.OK || bytes.Equal(x, b) {
					t.Fatalf("list %d, bit %d: the same bytes, error %d", i, bit, e)
				}
			}
		}
		for bit := range 32 {
			if x, e := framing.PutContent(with(c, func(c *framing.Content) { c.Epoch ^= 1 << bit })); e != api.OK || bytes.Equal(x, b) {
				t.Fatalf("the Epoch's bit %d: the same bytes, error %d", bit, e)
			}
		}
	}
}
