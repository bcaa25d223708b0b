package nodes_test

import (
	"bytes"
	"math"
	"testing"

	"synod/api"
	"synod/nodes"
)

// P1303: leaves of each Source, groups and places at their edges.
func TestLeafText(t *testing.T) {
	for _, l := range leaves() {
		for _, n := range []int{0, 1, 2, 63, 64, 65, 254, 255} {
			for _, place := range []int{0, 1, 5, 31, 32, api.MaxLeaves - 2, api.MaxLeaves - 1} {
				group := sample(int64(n), n)
				b, e := nodes.LeafText(l, group, place)
				checkPut(t, l, b, e, slowLeafText(l, group, place))
			}
		}
	}
}

// P1303: the texts' ends, written out.
func TestLeafTextEnds(t *testing.T) {
	whole := leaf(nodes.Updated, 3, 0)
	put, _ := nodes.PutLeaf(whole)
	b, e := nodes.LeafText(whole, []byte("gr"), 63)
	checkPut(t, whole, b, e, append(put[:len(put)-66], 2, 'g', 'r', 0, 0, 0, 63))
	whole.Source = nodes.Offered
	put, _ = nodes.PutLeaf(whole)
	b, e = nodes.LeafText(whole, []byte("gr"), 63)
	checkPut(t, whole, b, e, put[:len(put)-66])
	b, e = nodes.LeafText(whole, nil, 0)
	checkPut(t, whole, b, e, put[:len(put)-66])
}

// P1303: groups that are too long and places that are none, of each Source, of an Offered leaf, too, whose text has neither.
func TestLeafTextRefused(t *testing.T) {
	for _, l := range []nodes.Leaf{leaf(nodes.Offered, 3, 0), leaf(nodes.Updated, 3, 0), leaf(nodes.Committed, 3, 0), leaf(nodes.Committed, 3, 32)} {
		for _, n := range []int{256, 257, 16384, api.MaxBytes, api.MaxBytes + 1} {
			b, e := nodes.LeafText(l, make([]byte, n), 0)
			checkNotPut(t, n, b, e)
		}
		for _, place := range []int{-1, -2, -64, api.MaxLeaves, api.MaxLeaves + 1, 127, 256, 1<<32 - 1, 1 << 32, 1<<32 + 1, 1 << 62, math.MaxInt, math.MinInt, math.MinInt + 1} {
			for _, n := range []int{0, 1, 255, 256} {
				b, e := nodes.LeafText(l, make([]byte, n), place)
				checkNotPut(t, place, b, e)
			}
		}
	}
}

// P1303: leaves that may not be, by their Signature, too.
func TestLeafTextOfBadLeaves(t *testing.T) {
	for _, l := range badLeaves() {
		for _, place := range []int{-1, 0, api.MaxLeaves - 1, api.MaxLeaves} {
			b, e := nodes.LeafText(l, []byte("group"), place)
			checkNotPut(t, l, b, e)
		}
	}
}

// P1303: packages that may be: their bytes without the last 66.
func TestPackageText(t *testing.T) {
	for _, p := range packages() {
		b, e := nodes.PackageText(p)
		checkPut(t, p, b, e, slowPackageText(p))
		put, _ := nodes.PutPackage(p)
		checkPut(t, p, b, e, put[:len(put)-66])
	}
}

// P1303: packages that may not be.
func TestPackageTextRefused(t *testing.T) {
	for _, p := range badPackages() {
		b, e := nodes.PackageText(p)
		checkNotPut(t, p, b, e)
	}
}

// unlikeLeaves: no two the same but for Signatures: the fields' bytes are all of few kinds, so that one might be taken for the other.
func unlikeLeaves() []nodes.Leaf {
	ones, zeros, keys := bytes.Repeat([]byte{1}, 32), make([]byte, 32), bytes.Repeat([]byte{32}, 32)
	var out []nodes.Leaf
	for _, enc := range [][]byte{zeros, ones, keys} {
		for _, sig := range [][]byte{zeros, ones, keys} {
			for n := range api.MaxName {
				for _, x := range []byte{0, 1, 2, 3, 32} {
					l := nodes.Leaf{Enc: enc, Sig: sig, Name: bytes.Repeat([]byte{x}, n+1), Signature: make([]byte, 64)}
					out = append(out, with(l, func(l *nodes.Leaf) { l.Source = nodes.Offered }), with(l, func(l *nodes.Leaf) { l.Source = nodes.Updated }))
					for _, hash := range [][]byte{nil, zeros, ones, keys} {
						out = append(out, with(l, func(l *nodes.Leaf) { l.Source, l.Hash = nodes.Committed, hash }))
					}
				}
			}
		}
	}
	return out
}

// P1305: unlike leaves of one group and place have unlike texts.
func TestUnlikeLeaves(t *testing.T) {
	for _, group := range [][]byte{nil, make([]byte, 1), bytes.Repeat([]byte{32}, 32), make([]byte, 255)} {
		seen := map[string]int{}
		for i, l := range unlikeLeaves() {
			b, e := nodes.LeafText(l, group, 1)
			if e != api.OK {
				t.Fatal(e)
			}
			if other, ok := seen[string(b)]; ok {
				t.Fatalf("leaves %d and %d: one text, %x", other, i, b)
			}
			seen[string(b)] = i
		}
	}
}

// P1305: each bit of a leaf has weight.
func TestEachBitCounts(t *testing.T) {
	for _, l := range leaves() {
		text, _ := nodes.LeafText(l, []byte("group"), 1)
		for i, list := range leafLists(l)[:4] {
			for bit := range 8 * len(list) {
				list[bit/8] ^= 1 << (bit % 8)
				if b, e := nodes.LeafText(l, []byte("group"), 1); e != api.OK || bytes.Equal(b, text) {
					t.Fatalf("list %d, bit %d: the same text, error %d", i, bit, e)
				}
				list[bit/8] ^= 1 << (bit % 8)
			}
		}
	}
}

// P1303: the Signature has no weight for a leaf's text, nor a package's for its; but the leaf's in a package has.
func TestSignaturesInTexts(t *testing.T) {
	for _, l := range leaves() {
		one, _ := nodes.LeafText(l, []byte("group"), 1)
		two, e := nodes.LeafText(with(l, func(l *nodes.Leaf) { l.Signature = sample(20, 64) }), []byte("group"), 1)
		checkPut(t, l, two, e, one)
	}
	for _, p := range packages() {
		one, _ := nodes.PackageText(p)
		two, e := nodes.PackageText(with(p, func(p *nodes.Package) { p.Signature = sample(20, 64) }))
		checkPut(t, p, two, e, one)
		two, e = nodes.PackageText(with(p, func(p *nodes.Package) { p.Leaf.Signature = sample(20, 64) }))
		if e != api.OK || bytes.Equal(one, two) {
			t.Errorf("the same text, error %d", e)
		}
	}
}

// P1305: one leaf's texts of two groups or places are unlike, if it is not Offered, and the same, if it is.
func TestUnlikeGroupsAndPlaces(t *testing.T) {
	for _, l := range []nodes.Leaf{leaf(nodes.Offered, 3, 0), leaf(nodes.Updated, 3, 0), leaf(nodes.Committed, 3, 0), leaf(nodes.Committed, 3, 32)} {
		seen := map[string]int{}
		for n := range 256 {
			for _, x := range []byte{0, 1, 4, 255} {
				for _, place := range []int{0, 1, 4, 62, 63} {
					b, e := nodes.LeafText(l, bytes.Repeat([]byte{x}, n), place)
					if e != api.OK {
						t.Fatal(e)
					}
					seen[string(b)]++
				}
			}
		}
		want := 255*4*5 + 5 // of no bytes there is one group only
		if l.Source == nodes.Offered {
			want = 1
		}
		if len(seen) != want {
			t.Errorf("Source %d: %d texts, not %d", l.Source, len(seen), want)
		}
	}
}
