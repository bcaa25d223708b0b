package tree_test

import (
	"bytes"
	"slices"
	"testing"

	"synod/nodes"
	"synod/tree"
)

// The hash at a place, written out.
func TestHashWrittenOut(t *testing.T) {
	x := tree.New()
	blank0 := sum([]byte{1, 0, 0, 0, 0, 0})
	if !bytes.Equal(x.Hash(), blank0) || !bytes.Equal(x.HashAt(0), blank0) {
		t.Errorf("%x, not %x", x.Hash(), blank0)
	}
	for n := range 3 {
		x.Add(leaf(n))
	}
	leaves := make([][]byte, 4)
	for i := range 3 {
		leaves[i] = sum([]byte{1, 0, 0, 0, byte(i), 1}, slowLeaf(leaf(i)))
	}
	leaves[3] = sum([]byte{1, 0, 0, 0, 3, 0})
	one := sum([]byte{2, 0, 32}, leaves[0], []byte{32}, leaves[1])
	five := sum([]byte{2, 0, 32}, leaves[2], []byte{32}, leaves[3])
	three := sum([]byte{2, 0, 32}, one, []byte{32}, five)
	for at, want := range [][]byte{leaves[0], one, leaves[1], three, leaves[2], five, leaves[3]} {
		if got := x.HashAt(at); !bytes.Equal(got, want) {
			t.Errorf("place %d: %x, not %x", at, got, want)
		}
	}
	x.SetPath(2, [][]byte{key(50)})
	x.Add(leaf(3)) // Unmerged at the root
	leaves[3] = sum([]byte{1, 0, 0, 0, 3, 1}, slowLeaf(leaf(3)))
	five = sum([]byte{2, 0, 32}, leaves[2], []byte{32}, leaves[3])
	root := slices.Concat([]byte{32}, key(50), []byte{0, 4, 0, 0, 0, 3})
	three = sum([]byte{2, 1}, root, []byte{32}, one, []byte{32}, five)
	if !bytes.Equal(x.Hash(), three) || !bytes.Equal(x.HashAt(3), three) {
		t.Errorf("%x, not %x", x.Hash(), three)
	}
}

// Each thing that changes in a tree changes the Hash, and the hashes at the places above it alone.
func TestHashHangsOnAll(t *testing.T) {
	whole := changed(t)
	for i := range whole.x.Leaves() {
		if whole.s.leaves[i] == nil {
			continue
		}
		for _, change := range []func(l *nodes.Leaf){
			func(l *nodes.Leaf) { l.Enc[31] ^= 1 },
			func(l *nodes.Leaf) { l.Sig[0] ^= 128 },
			func(l *nodes.Leaf) { l.Name[0] ^= 1 },
			func(l *nodes.Leaf) { l.Signature[63] ^= 1 },
			func(l *nodes.Leaf) { l.Source = 3 - l.Source%3; l.Hash = nil },
		} {
			l, _ := whole.x.Leaf(i)
			change(&l)
			p := whole.copy()
			p.putLeaf(i, l)
			for x := range whole.s.parents {
				if above := whole.s.under(x, i); bytes.Equal(p.x.HashAt(x), whole.x.HashAt(x)) == above {
					t.Errorf("leaf %d, place %d: above %v", i, x, above)
				}
			}
		}
	}
}

// The hash of a Parent beside a part does not hang on who is Unmerged there: the tree stays Valid, though all hashes are others.
func TestUnmergedHaveNoWeight(t *testing.T) {
	p := filled(t, 16)
	for _, i := range []int{1, 2, 6, 7, 9, 12, 14} {
		p.remove(i)
	}
	for _, i := range []int{0, 5, 10, 15, 3} {
		p.commit(i)
	}
	for range 7 {
		p.join()
		p.check()
		if e := p.x.Valid(); e != 0 {
			t.Errorf("error %d", e)
		}
	}
}
