package tree

import (
	"bytes"
	"maps"
	"slices"

	"synod/api"
	"synod/index"
	"synod/nodes"
)

const keySize = 32

// Add, Set, Remove, SetPath, PutLeaf: changes. All that may be refused is asked ahead of the first one.
func (t *Tree) Add(l nodes.Leaf) (int, api.Errno) {
	if !t.made() || !mayBe(l) {
		return 0, api.ErrArg
	}
	i := t.firstBlank()
	if i == t.leaves && !t.widen() {
		return 0, api.ErrFull
	}
	t.put(i, l)
	for x, p := range t.parentsAbove(i) {
		t.stands[x] = p.withUnmerged(i)
	}
	return i, api.OK
}

func (t *Tree) Set(i int, l nodes.Leaf) api.Errno {
	if !mayBe(l) || !t.hasLeaf(i) {
		return api.ErrArg
	}
	if t.stands[placeOf(i)] == nil {
		return api.ErrNone
	}
	t.put(i, l)
	t.blankAbove(i)
	return api.OK
}

func (t *Tree) Remove(i int) api.Errno {
	if !t.hasLeaf(i) {
		return api.ErrArg
	}
	if t.stands[placeOf(i)] == nil {
		return api.ErrNone
	}
	delete(t.stands, placeOf(i))
	t.blankAbove(i)
	for t.tooWide() {
		t.halve()
	}
	return api.OK
}

func (t *Tree) SetPath(i int, keys [][]byte) ([]byte, api.Errno) {
	if !t.hasLeaf(i) || len(keys) != len(t.Filtered(i)) || slices.ContainsFunc(keys, notOfKeySize) {
		return nil, api.ErrArg
	}
	var way, beside []int
	for x, s := range t.filtered(i) {
		way, beside = append(way, x), append(beside, s)
	}
	t.blankAbove(i)
	var hash []byte
	for k, x := range slices.Backward(way) { // each one's hash hangs on that of the one above it
		p := parent{Enc: bytes.Clone(keys[k]), Hash: hash}
		t.stands[x] = p
		hash = t.hashBeside(p, beside[k])
	}
	return hash, api.OK
}

func (t *Tree) PutLeaf(i int, l nodes.Leaf) api.Errno {
	if !mayBe(l) || !t.hasLeaf(i) {
		return api.ErrArg
	}
	t.put(i, l)
	return api.OK
}

func mayBe(l nodes.Leaf) bool {
	_, e := nodes.PutLeaf(l)
	return e == api.OK
}

func notOfKeySize(key []byte) bool { return len(key) != keySize }

// put: leaf i, and nothing else.
func (t *Tree) put(i int, l nodes.Leaf) { t.stands[placeOf(i)] = leaf(ownLeaf(leaf(l))) }

// blankAbove: all places on leaf i's way to the root.
func (t *Tree) blankAbove(i int) {
	for _, x := range index.Path(i, t.leaves) {
		delete(t.stands, x)
	}
}

// firstBlank: the number of the first blank leaf; that of the first one behind all, if there is none.
func (t *Tree) firstBlank() int {
	i := 0
	for m := range t.members() {
		if m != i {
			break
		}
		i++
	}
	return i
}

// withUnmerged: with leaf i among them, in its order; the list of p itself stays.
func (p parent) withUnmerged(i int) parent {
	if at, found := slices.BinarySearch(p.Unmerged, i); !found {
		p.Unmerged = slices.Insert(slices.Clone(p.Unmerged), at, i)
	}
	return p
}

// widen: as many new leaves, blank; false, if there may not be so many.
func (t *Tree) widen() bool {
	if t.leaves == api.MaxLeaves {
		return false
	}
	t.leaves *= 2
	return true
}

// tooWide: the right half of the leaves are blank, and it is not all of them.
func (t *Tree) tooWide() bool {
	for i := range t.members() {
		if i >= t.leaves/2 {
			return false
		}
	}
	return t.leaves > 1
}

// halve: the root goes with the right half, whatever stands there.
func (t *Tree) halve() {
	t.leaves /= 2
	maps.DeleteFunc(t.stands, func(x int, _ node) bool { return !t.hasPlace(x) })
}
