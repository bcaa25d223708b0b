package nodes_test

import (
	"bytes"
	"encoding/binary"
	"fmt"
	"math"
	"math/rand"
	"slices"

	"synod/api"
	"synod/nodes"
)

func sample(seed int64, n int) []byte {
	b := make([]byte, n)
	rand.New(rand.NewSource(seed)).Read(b)
	return b
}

// short: what a test that fails tells of x, which may be very long.
func short(x any) string {
	s := fmt.Sprintf("%v", x)
	return s[:min(300, len(s))]
}

// leaf: one that may be.
func leaf(source, name, hash int) nodes.Leaf {
	return nodes.Leaf{Enc: sample(1, 32), Sig: sample(2, 32), Name: sample(3, name), Source: source, Hash: sample(4, hash), Signature: sample(5, 64)}
}

// with: l, changed.
func with[T any](l T, change func(l *T)) T {
	change(&l)
	return l
}

// leaves: of each Source, with short and long Names, with a Hash and with none.
func leaves() []nodes.Leaf {
	var out []nodes.Leaf
	for _, name := range []int{1, 2, 31, 32, 62, 63, api.MaxName} {
		out = append(out, leaf(nodes.Offered, name, 0), leaf(nodes.Updated, name, 0), leaf(nodes.Committed, name, 0), leaf(nodes.Committed, name, 32))
	}
	zeros := nodes.Leaf{Enc: make([]byte, 32), Sig: make([]byte, 32), Name: make([]byte, 1), Source: nodes.Committed, Hash: make([]byte, 32), Signature: make([]byte, 64)}
	return append(out, zeros, with(zeros, func(l *nodes.Leaf) { l.Hash, l.Source = nil, nodes.Updated }))
}

// lengths: that none of the sizes given is.
func lengths(sizes ...int) []int {
	var out []int
	for _, n := range []int{0, 1, 2, 31, 32, 33, 63, 64, 65, 66, 96, 128, 255, 256, 288, 16384, api.MaxBytes, api.MaxBytes + 1} {
		if !slices.Contains(sizes, n) {
			out = append(out, n)
		}
	}
	return out
}

// badLeaves: that may not be, each by one field.
func badLeaves() []nodes.Leaf {
	var out []nodes.Leaf
	add := func(change func(l *nodes.Leaf)) {
		out = append(out, with(leaf(nodes.Offered, 3, 0), change), with(leaf(nodes.Updated, 3, 0), change), with(leaf(nodes.Committed, 3, 32), change), with(leaf(nodes.Committed, 3, 0), change))
	}
	for _, n := range lengths(32) {
		add(func(l *nodes.Leaf) { l.Enc = sample(6, n) })
		add(func(l *nodes.Leaf) { l.Sig = sample(6, n) })
		if n != 0 {
			add(func(l *nodes.Leaf) { l.Hash = sample(6, n) })
		}
	}
	for _, n := range []int{0, api.MaxName + 1, api.MaxName + 2, 255, 256 + 1, 16384, api.MaxBytes, api.MaxBytes + 1} {
		add(func(l *nodes.Leaf) { l.Name = sample(6, n) })
	}
	for _, n := range lengths(64) {
		add(func(l *nodes.Leaf) { l.Signature = sample(6, n) })
	}
	for _, source := range noSources() {
		add(func(l *nodes.Leaf) { l.Source = source })
	}
	return append(out, leaf(nodes.Offered, 3, 32), leaf(nodes.Updated, 3, 32), nodes.Leaf{})
}

func noSources() []int {
	return []int{0, 4, 5, 127, 128, 255, 256, 256 + nodes.Offered, 256 + nodes.Committed, 1<<32 + nodes.Updated, 1 << 62, math.MaxInt, -1, -2, -255, -253, -1 << 32, math.MinInt, math.MinInt + 1}
}

func parent(hash int, unmerged ...int) nodes.Parent {
	return nodes.Parent{Enc: sample(7, 32), Hash: sample(8, hash), Unmerged: unmerged}
}

// numbers: the first n, from 0 on.
func numbers(n int) []int {
	out := make([]int, n)
	for i := range n {
		out[i] = i
	}
	return out
}

// parents: with a Hash and with none, with few and many Unmerged.
func parents() []nodes.Parent {
	var out []nodes.Parent
	for _, hash := range []int{0, 32} {
		for n := range api.MaxLeaves + 1 {
			out = append(out, parent(hash, numbers(n)...), parent(hash, numbers(api.MaxLeaves)[n:]...))
		}
		for n := range api.MaxLeaves {
			out = append(out, parent(hash, n))
		}
		out = append(out, parent(hash, 0, 63), parent(hash, 1, 5), parent(hash, 2, 3, 5, 7, 11, 62))
	}
	return append(out, nodes.Parent{Enc: make([]byte, 32), Hash: make([]byte, 32)})
}

// badLists: Unmerged that fall, are twice the same, or are no leaves' numbers.
func badLists() [][]int {
	out := [][]int{{5, 5}, {0, 0}, {63, 63}, {1, 0}, {5, 1}, {63, 0}, {0, 1, 1}, {0, 2, 1}, {0, 0, 1}, {1, 0, 2}, {3, 4, 3}, {62, 63, 64}, {0, 64}, {-1, 0}, {0, -1}, {64, 0}}
	for _, n := range []int{-1, -2, -64, api.MaxLeaves, api.MaxLeaves + 1, 127, 255, 256, 65536, 1<<32 - 1, 1 << 32, 1<<32 + 5, 1 << 62, math.MaxInt, math.MinInt} {
		out = append(out, []int{n}, []int{1, n}, []int{n, 63}, append(numbers(api.MaxLeaves), n))
	}
	out = append(out, append(numbers(api.MaxLeaves), numbers(api.MaxLeaves)...), append(numbers(api.MaxLeaves), 63), numbers(api.MaxLeaves+1), numbers(1000), numbers(api.MaxBytes/4), make([]int, api.MaxBytes/4+1))
	falls := numbers(api.MaxLeaves)
	slices.Reverse(falls)
	return append(out, falls)
}

// badParents: that may not be, each by one field.
func badParents() []nodes.Parent {
	out := []nodes.Parent{{}}
	for _, n := range lengths(32) {
		out = append(out, with(parent(0, 1), func(p *nodes.Parent) { p.Enc = sample(9, n) }), with(parent(32), func(p *nodes.Parent) { p.Enc = sample(9, n) }))
		if n != 0 {
			out = append(out, parent(n), parent(n, 1, 5))
		}
	}
	for _, list := range badLists() {
		out = append(out, parent(0, list...), parent(32, list...))
	}
	return out
}

func packed(l nodes.Leaf) nodes.Package {
	return nodes.Package{Init: sample(10, 32), Leaf: l, Signature: sample(11, 64)}
}

// packages: of leaves that are Offered.
func packages() []nodes.Package {
	var out []nodes.Package
	for _, l := range leaves() {
		if l.Source == nodes.Offered {
			out = append(out, packed(l), with(packed(l), func(p *nodes.Package) { p.Init, p.Signature = make([]byte, 32), make([]byte, 64) }))
		}
	}
	return append(out, with(packed(leaf(nodes.Offered, 1, 0)), func(p *nodes.Package) { p.Init = p.Leaf.Enc }))
}

// badPackages: that may not be, each by one field or by its leaf.
func badPackages() []nodes.Package {
	out := []nodes.Package{{}, packed(nodes.Leaf{})}
	whole := packed(leaf(nodes.Offered, 3, 0))
	for _, n := range lengths(32) {
		out = append(out, with(whole, func(p *nodes.Package) { p.Init = sample(12, n) }))
	}
	for _, n := range lengths(64) {
		out = append(out, with(whole, func(p *nodes.Package) { p.Signature = sample(12, n) }))
	}
	for _, l := range badLeaves() {
		out = append(out, packed(l))
	}
	for _, l := range leaves() {
		if l.Source != nodes.Offered {
			out = append(out, packed(l))
		}
	}
	return out
}

// slowVector: the chapter's words one by one, whatever may be.
func slowVector(b []byte) []byte {
	n := len(b)
	switch {
	case n <= 63:
		return append([]byte{byte(n)}, b...)
	case n <= 16383:
		return append(binary.BigEndian.AppendUint16(nil, 0x4000|uint16(n)), b...)
	}
	return append(binary.BigEndian.AppendUint32(nil, 0x80000000|uint32(n)), b...)
}

func slowUnsigned(l nodes.Leaf) []byte {
	b := slices.Concat(slowVector(l.Enc), slowVector(l.Sig), slowVector(l.Name), []byte{byte(l.Source)})
	if l.Source == nodes.Committed {
		b = append(b, slowVector(l.Hash)...)
	}
	return b
}

func slowLeaf(l nodes.Leaf) []byte { return append(slowUnsigned(l), slowVector(l.Signature)...) }

func slowParent(p nodes.Parent) []byte {
	var list []byte
	for _, n := range p.Unmerged {
		list = binary.BigEndian.AppendUint32(list, uint32(n))
	}
	return slices.Concat(slowVector(p.Enc), slowVector(p.Hash), slowVector(list))
}

func slowPackageText(p nodes.Package) []byte {
	return slices.Concat([]byte{0, 1, 0, 1}, slowVector(p.Init), slowLeaf(p.Leaf))
}

func slowPackage(p nodes.Package) []byte {
	return append(slowPackageText(p), slowVector(p.Signature)...)
}

func slowLeafText(l nodes.Leaf, group []byte, leaf int) []byte {
	b := slowUnsigned(l)
	if l.Source != nodes.Offered {
		b = binary.BigEndian.AppendUint32(append(b, slowVector(group)...), uint32(leaf))
	}
	return b
}

// sameLeaf: field by field, nil and empty being the same.
func sameLeaf(a, b nodes.Leaf) bool {
	return a.Source == b.Source && slices.EqualFunc(leafLists(a), leafLists(b), bytes.Equal)
}

func sameParent(a, b nodes.Parent) bool {
	return bytes.Equal(a.Enc, b.Enc) && bytes.Equal(a.Hash, b.Hash) && slices.Equal(a.Unmerged, b.Unmerged)
}

func samePackage(a, b nodes.Package) bool {
	return bytes.Equal(a.Init, b.Init) && sameLeaf(a.Leaf, b.Leaf) && bytes.Equal(a.Signature, b.Signature)
}

func leafLists(l nodes.Leaf) [][]byte { return [][]byte{l.Enc, l.Sig, l.Name, l.Hash, l.Signature} }

func packageLists(p nodes.Package) [][]byte {
	return append(leafLists(p.Leaf), p.Init, p.Signature)
}
