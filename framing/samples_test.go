package framing_test

import (
	"bytes"
	"fmt"
	"math"
	"math/rand"
	"slices"

	"synod/api"
	"synod/framing"
)

const (
	mostBody    = 40000
	mostContext = 2000
	mostGen     = 1<<32 - 1
)

func sample(seed int64, n int) []byte {
	b := make([]byte, n)
	rand.New(rand.NewSource(seed)).Read(b)
	return b
}

// short: what a test that fails tells of x, which may be very long.
func short(x any) string {
	s := fmt.Sprintf("%v", x)
	return s[:min(300, len(s))]
}

// with: x, changed.
func with[T any](x T, change func(x *T)) T {
	change(&x)
	return x
}

// flipped: b with one bit changed.
func flipped(b []byte, bit int) []byte {
	b = bytes.Clone(b)
	b[bit/8] ^= 1 << (bit % 8)
	return b
}

// lengths: none of which is n.
func lengths(n int) []int {
	var out []int
	for _, m := range []int{0, 1, 4, 11, 12, 13, 15, 16, 17, 27, 28, 29, 31, 32, 33, 63, 64, 65, 128, 255, 256, 256 + n, 2 * n, n - 1, n + 1, 16384, api.MaxBytes, api.MaxBytes + 1, 1<<16 + n} {
		if m != n {
			out = append(out, m)
		}
	}
	return out
}

// noNumbers: that none of those from least to most is, also such as would be one if they were cut off.
func noNumbers(least, most int) []int {
	out := []int{least - 1, least - 2, most + 1, most + 2, math.MinInt, math.MinInt + 1 + most, math.MaxInt, 1 << 62, 1<<62 + most, least - 1<<32}
	for _, bits := range []int{8, 16, 32} {
		if 1<<bits > most {
			out = append(out, 1<<bits+least, 1<<bits+most, least-1<<bits)
		}
	}
	return out
}

func content(kind int) framing.Content {
	return framing.Content{Group: sample(1, 9), Epoch: 0x01020304, From: framing.Member, Leaf: 5, More: sample(2, 11), Kind: kind, Body: sample(3, 40)}
}

func joining() framing.Content {
	return with(content(framing.Commit), func(c *framing.Content) { c.From, c.Leaf = framing.Joining, 0 })
}

// bases: of each Kind, from each one who there may be.
func bases() []framing.Content {
	return []framing.Content{content(framing.Words), content(framing.Proposal), content(framing.Commit), joining()}
}

// contents: that may be, at all edges.
func contents() []framing.Content {
	var out []framing.Content
	for _, c := range bases() {
		add := func(change func(c *framing.Content)) { out = append(out, with(c, change)) }
		out = append(out, c)
		for i, n := range []int{0, 1, 62, 63, 64, 65, 254, 255} {
			add(func(c *framing.Content) { c.Group = sample(int64(i), n) })
			add(func(c *framing.Content) { c.More = sample(int64(i), n) })
		}
		for _, epoch := range []int{0, 1, 255, 256, 1 << 16, 1<<31 - 1, 1 << 31, api.MaxEpoch - 2, api.MaxEpoch - 1} {
			add(func(c *framing.Content) { c.Epoch = epoch })
		}
		for _, n := range []int{0, 1, 62, 63, 64, 65, 16383, 16384, 16385, mostBody - 1, mostBody} {
			add(func(c *framing.Content) { c.Body = sample(int64(n), n) })
		}
		add(func(c *framing.Content) { c.Group, c.Epoch, c.Leaf, c.More, c.Body = nil, 0, 0, nil, nil })
		add(func(c *framing.Content) {
			c.Group, c.Epoch, c.More, c.Body = full(255), api.MaxEpoch-1, full(255), full(mostBody)
		})
		if c.From != framing.Member {
			continue
		}
		for _, leaf := range []int{0, 1, 31, 32, api.MaxLeaves - 2, api.MaxLeaves - 1} {
			add(func(c *framing.Content) { c.Leaf = leaf })
		}
	}
	return out
}

func full(n int) []byte { return bytes.Repeat([]byte{255}, n) }

// badContents: that may not be, each by one field.
func badContents() []framing.Content {
	out := []framing.Content{{}, {Kind: framing.Words}, {From: framing.Member}}
	for _, c := range bases() {
		add := func(change func(c *framing.Content)) { out = append(out, with(c, change)) }
		for _, n := range []int{256, 257, 511, 16384, api.MaxBytes, api.MaxBytes + 1} {
			add(func(c *framing.Content) { c.Group = make([]byte, n) })
			add(func(c *framing.Content) { c.More = make([]byte, n) })
		}
		for _, n := range []int{mostBody + 1, mostBody + 2, api.MaxBytes, api.MaxBytes + 1, 1<<16 + 5, 1 << 17} {
			add(func(c *framing.Content) { c.Body = make([]byte, n) })
		}
		for _, n := range noNumbers(0, api.MaxEpoch-1) {
			add(func(c *framing.Content) { c.Epoch = n })
		}
		for _, n := range noNumbers(0, api.MaxLeaves-1) {
			add(func(c *framing.Content) { c.Leaf = n })
		}
		for _, n := range noNumbers(framing.Words, framing.Commit) {
			add(func(c *framing.Content) { c.Kind = n })
		}
		for _, n := range slices.Concat([]int{2, 3}, noNumbers(framing.Member, framing.Joining)) {
			add(func(c *framing.Content) { c.From = n })
			add(func(c *framing.Content) { c.From, c.Leaf = n, 0 })
		}
	}
	for _, kind := range []int{framing.Words, framing.Proposal} {
		out = append(out, with(joining(), func(c *framing.Content) { c.Kind = kind }))
	}
	for _, leaf := range []int{1, 2, 5, api.MaxLeaves - 1} {
		out = append(out, with(joining(), func(c *framing.Content) { c.Leaf = leaf }))
	}
	return out
}

// waysOf: in which a content may go.
func waysOf(c framing.Content) []int {
	switch {
	case c.From == framing.Joining:
		return []int{framing.Public}
	case c.Kind == framing.Words:
		return []int{framing.Private}
	}
	return []int{framing.Public, framing.Private}
}

// signed: with a Signature that is one of nobody, and a Confirm, if there must be one.
func signed(c framing.Content, wire int) framing.Signed {
	s := framing.Signed{Content: c, Wire: wire, Signature: sample(4, 64)}
	if c.Kind == framing.Commit {
		s.Confirm = sample(5, 32)
	}
	return s
}

// signeds: all contents, in all ways they may go in.
func signeds() []framing.Signed {
	var out []framing.Signed
	for _, c := range contents() {
		for _, wire := range waysOf(c) {
			out = append(out, signed(c, wire))
		}
	}
	return out
}

// goes: those of a list that go in that way.
func goes(list []framing.Signed, wire int) []framing.Signed {
	return slices.DeleteFunc(slices.Clone(list), func(s framing.Signed) bool { return s.Wire != wire })
}

func baseSigneds() []framing.Signed {
	var out []framing.Signed
	for _, c := range bases() {
		for _, wire := range waysOf(c) {
			out = append(out, signed(c, wire))
		}
	}
	return out
}

// unfit: that may not be, but not for the Signature: by the content, the Wire, or the Confirm.
func unfit() []framing.Signed {
	var out []framing.Signed
	for _, c := range badContents() {
		out = append(out, signed(c, framing.Public), signed(c, framing.Private))
	}
	for _, c := range bases() {
		for _, wire := range append(noNumbers(framing.Public, framing.Private), framing.Public, framing.Private) {
			if !slices.Contains(waysOf(c), wire) {
				out = append(out, signed(c, wire))
			}
		}
	}
	for _, s := range baseSigneds() {
		for _, n := range []int{0, 1, 31, 32, 33, 64, 255, 256, 288, api.MaxBytes + 1} {
			if n != len(s.Confirm) {
				out = append(out, with(s, func(s *framing.Signed) { s.Confirm = make([]byte, n) }))
			}
		}
	}
	return out
}

// badSigneds: all that may not be.
func badSigneds() []framing.Signed {
	out := append(unfit(), framing.Signed{})
	for _, s := range baseSigneds() {
		for _, n := range lengths(64) {
			out = append(out, with(s, func(s *framing.Signed) { s.Signature = make([]byte, n) }))
		}
	}
	return out
}

// sealeds: that may be, at all edges; nobody can open them.
func sealeds() []framing.Sealed {
	var out []framing.Sealed
	for _, c := range contents() {
		if c.From == framing.Member && len(c.Body) == 40 {
			out = append(out, framing.Sealed{Group: c.Group, Epoch: c.Epoch, Kind: c.Kind, More: c.More, Sender: sample(6, 28), Body: sample(7, 100)})
		}
	}
	for _, kind := range []int{framing.Words, framing.Proposal, framing.Commit} {
		for _, n := range []int{16, 17, 31, 32, 33, 63, 64, 16383, 16384, mostBody, mostBody + 1, api.MaxBytes - 1, api.MaxBytes} {
			out = append(out, framing.Sealed{Group: sample(1, 9), Epoch: 7, Kind: kind, More: sample(2, 11), Sender: sample(6, 28), Body: sample(7, n)})
		}
		out = append(out, framing.Sealed{Kind: kind, Sender: make([]byte, 28), Body: make([]byte, 16)})
	}
	return out
}

// badSealeds: that may not be, each by one field of x.
func badSealeds(x framing.Sealed) []framing.Sealed {
	out := []framing.Sealed{{}}
	add := func(change func(x *framing.Sealed)) { out = append(out, with(x, change)) }
	for _, n := range []int{256, 257, 511, 16384, api.MaxBytes, api.MaxBytes + 1} {
		add(func(x *framing.Sealed) { x.Group = make([]byte, n) })
		add(func(x *framing.Sealed) { x.More = make([]byte, n) })
	}
	for _, n := range noNumbers(0, api.MaxEpoch-1) {
		add(func(x *framing.Sealed) { x.Epoch = n })
	}
	for _, n := range noNumbers(framing.Words, framing.Commit) {
		add(func(x *framing.Sealed) { x.Kind = n })
	}
	for _, n := range lengths(28) {
		add(func(x *framing.Sealed) { x.Sender = make([]byte, n) })
	}
	for _, n := range []int{0, 1, 14, 15, api.MaxBytes + 1, api.MaxBytes + 16, api.MaxBytes + 17, 1<<16 + 32, 1 << 17} {
		add(func(x *framing.Sealed) { x.Body = make([]byte, n) })
	}
	return out
}

func contentLists(c *framing.Content) []*[]byte { return []*[]byte{&c.Group, &c.More, &c.Body} }

func signedLists(s *framing.Signed) []*[]byte {
	return append(contentLists(&s.Content), &s.Signature, &s.Confirm)
}

func sealedLists(x *framing.Sealed) []*[]byte {
	return []*[]byte{&x.Group, &x.More, &x.Sender, &x.Body}
}

// told: what the lists hold.
func told(lists []*[]byte) [][]byte {
	var out [][]byte
	for _, list := range lists {
		out = append(out, *list)
	}
	return out
}

func same(a, b [][]byte) bool { return slices.EqualFunc(a, b, bytes.Equal) }

// sameContent, sameSigned, sameSealed: field by field, nil and empty being the same.
func sameContent(a, b framing.Content) bool {
	return a.Epoch == b.Epoch && a.From == b.From && a.Leaf == b.Leaf && a.Kind == b.Kind && same(told(contentLists(&a)), told(contentLists(&b)))
}

func sameSigned(a, b framing.Signed) bool {
	return sameContent(a.Content, b.Content) && a.Wire == b.Wire && same(told(signedLists(&a)), told(signedLists(&b)))
}

func sameSealed(a, b framing.Sealed) bool {
	return a.Epoch == b.Epoch && a.Kind == b.Kind && same(told(sealedLists(&a)), told(sealedLists(&b)))
}
