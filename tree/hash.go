package tree

import (
	"slices"

	"synod/codec"
	"synod/index"
	"synod/sha"
)

const (
	blank   = 0
	present = 1

	leafBytes = 4 // of a leaf's number
)

// Hash, HashAt: of the whole tree, of what is at and below a place.
func (t *Tree) Hash() []byte {
	if !t.made() {
		return nil
	}
	return t.hashAt(index.Root(t.leaves))
}

func (t *Tree) HashAt(x int) []byte {
	if !t.hasPlace(x) {
		return nil
	}
	return t.hashAt(x)
}

func (t *Tree) hashAt(x int) []byte {
	left, ok := index.Left(x)
	if !ok {
		number, _ := codec.Number(x/2, leafBytes)
		return sha.Sum256(slices.Concat([]byte{leafKind}, number, bytesOrBlank(t.stands[x])))
	}
	right, _ := index.Right(x)
	parts, _ := codec.Vectors(t.hashAt(left), t.hashAt(right))
	return sha.Sum256(slices.Concat([]byte{parentKind}, bytesOrBlank(t.stands[x]), parts))
}

func bytesOrBlank(n node) []byte {
	if n == nil {
		return []byte{blank}
	}
	return append([]byte{present}, n.bytes()...)
}

// hashBeside: the hash of a Parent beside s, one of its place's parts, as it was when nobody was Unmerged there.
func (t *Tree) hashBeside(p parent, s int) []byte {
	b, _ := codec.Vectors(p.Enc, p.Hash, t.without(p.Unmerged).hashAt(s))
	return sha.Sum256(b)
}

// without: a copy in which those leaves are blank, and among nobody's Unmerged.
func (t *Tree) without(gone []int) *Tree {
	out := t.Copy()
	for _, i := range gone {
		delete(out.stands, placeOf(i))
	}
	for x, p := range t.parents() {
		out.stands[x] = p.withoutUnmerged(gone)
	}
	return out
}

func (p parent) withoutUnmerged(gone []int) parent {
	p.Unmerged = slices.DeleteFunc(slices.Clone(p.Unmerged), func(i int) bool { return slices.Contains(gone, i) })
	return p
}
