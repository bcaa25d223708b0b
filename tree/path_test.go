package tree_test

import (
	"bytes"
	"slices"
	"testing"

	"synod/api"
	"synod/nodes"
)

// P1404: of each leaf, member or blank, of trees of all kinds: what stands there, and what is answered (both against the words).
func TestSetPath(t *testing.T) {
	for _, whole := range append(grown(t, 3, 10), newPair(t), filled(t, 1), filled(t, 2), filled(t, 7), filled(t, 64), changed(t)) {
		for i := range whole.x.Leaves() {
			p := whole.copy()
			keys := p.keys(len(p.x.Filtered(i)))
			if _, e := p.setPath(i, keys); e != api.OK {
				t.Fatalf("leaf %d: error %d", i, e)
			}
			p.check()
			if !slices.Equal(p.x.Filtered(i), whole.x.Filtered(i)) {
				t.Errorf("leaf %d: another filtered path", i)
			}
		}
	}
}

// P1404: the hashes of a path, one by one.
func TestSetPathWrittenOut(t *testing.T) {
	p := filled(t, 4)
	p.commit(3) // 5 3
	beside1, beside3 := p.x.HashAt(2), p.x.HashAt(5)
	other, _ := p.x.Parent(5)
	keys := [][]byte{key(1), key(2)}
	h, e := p.x.SetPath(0, keys)
	top := sum(slowVector(key(2)), slowVector(nil), slowVector(beside3))
	low := sum(slowVector(key(1)), slowVector(top), slowVector(beside1))
	one, _ := p.x.Parent(1)
	three, _ := p.x.Parent(3)
	five, ok := p.x.Parent(5)
	if e != api.OK || !bytes.Equal(h, low) {
		t.Errorf("%x, error %d, not %x", h, e, low)
	}
	if !sameParent(one, nodes.Parent{Enc: key(1), Hash: top}) || !sameParent(three, nodes.Parent{Enc: key(2)}) {
		t.Errorf("%v, %v", one, three)
	}
	if !ok || !sameParent(five, other) {
		t.Errorf("%v, not %v", five, other)
	}
}

// P1404: places that are filtered are blank, whatever stood there; nobody is Unmerged any more.
func TestSetPathFiltered(t *testing.T) {
	p := filled(t, 8)
	p.commit(0)
	p.commit(7)
	p.putLeaf(0, leaf(1))
	q := p.copy()
	q.s.leaves[1], q.s.leaves[2], q.s.leaves[3] = nil, nil, nil
	q = read(t, q.s) // Parents above leaf 0 with nobody beside
	if f := q.x.Filtered(0); !slices.Equal(f, []int{7}) {
		t.Fatalf("Filtered %v", f)
	}
	q.commit(0)
	q.check()
	for _, x := range []int{1, 3} {
		if _, ok := q.x.Parent(x); ok {
			t.Errorf("a Parent at %d", x)
		}
	}
	for range 3 {
		q.join()
	}
	if top, _ := q.x.Parent(7); !slices.Equal(top.Unmerged, []int{1, 2, 3}) {
		t.Errorf("Unmerged %v", top.Unmerged)
	}
	q.commit(2)
	if top, _ := q.x.Parent(7); len(top.Unmerged) != 0 {
		t.Errorf("Unmerged %v", top.Unmerged)
	}
	q.check()
}

// P1404: where nothing is filtered, and of a tree of one leaf.
func TestSetPathOfNothing(t *testing.T) {
	alone := filled(t, 8)
	alone.commit(7)
	for i := range 7 {
		alone.remove(i)
	}
	for _, p := range []*pair{newPair(t), filled(t, 1), alone} {
		before := p.x.Encode()
		i := p.x.Leaves() - 1
		for _, keys := range [][][]byte{nil, {}} {
			if h, e := p.setPath(i, keys); e != api.OK || len(h) != 0 {
				t.Errorf("%x, error %d", h, e)
			}
		}
		if !bytes.Equal(p.x.Encode(), before) {
			t.Error("changed")
		}
		h, e := p.setPath(i, p.keys(1))
		if len(h) != 0 {
			t.Errorf("%x", h)
		}
		p.refused(e, api.ErrArg)
	}
}

// P1404: other numbers of keys: ErrArg, and the tree is as it was.
func TestSetPathOfOtherCounts(t *testing.T) {
	for _, p := range []*pair{filled(t, 2), filled(t, 5), changed(t), filled(t, 64)} {
		before := p.x.Encode()
		for i := range p.x.Leaves() {
			right := len(p.x.Filtered(i))
			for n := range 9 {
				if n == right {
					continue
				}
				if h, e := p.setPath(i, p.keys(n)); e != api.ErrArg || len(h) != 0 {
					t.Errorf("leaf %d, %d keys of %d: %x, error %d", i, n, right, h, e)
				}
			}
			if h, e := p.x.SetPath(i, make([][]byte, 100000)); e != api.ErrArg || len(h) != 0 {
				t.Errorf("leaf %d, many keys: %x, error %d", i, h, e)
			}
		}
		if !bytes.Equal(p.x.Encode(), before) {
			t.Error("changed")
		}
		p.check()
	}
}

// P1404: keys of other lengths: ErrArg, and the tree is as it was.
func TestSetPathOfOtherKeys(t *testing.T) {
	p := changed(t)
	before := p.x.Encode()
	for i := range p.x.Leaves() {
		for at := range p.x.Filtered(i) {
			for _, size := range []int{0, 1, 16, 31, 33, 64, 100000} {
				keys := p.keys(len(p.x.Filtered(i)))
				keys[at] = make([]byte, size)
				if h, e := p.setPath(i, keys); e != api.ErrArg || len(h) != 0 {
					t.Errorf("leaf %d, key %d of %d bytes: %x, error %d", i, at, size, h, e)
				}
			}
		}
	}
	if !bytes.Equal(p.x.Encode(), before) {
		t.Error("changed")
	}
	p.check()
}

// P1404: keys that are the same, or zeros, are no error of SetPath.
func TestSetPathOfAnyKeys(t *testing.T) {
	p := filled(t, 8)
	for _, k := range [][]byte{key(1), make([]byte, 32), bytes.Repeat([]byte{255}, 32)} {
		if _, e := p.setPath(3, [][]byte{k, k, k}); e != api.OK {
			t.Errorf("error %d", e)
		}
		p.check()
	}
}
