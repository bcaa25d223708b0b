package tree_test

import (
	"bytes"
	"slices"
	"testing"

	"synod/api"
	"synod/nodes"
)

// P1403: Add until there is no room; the tree is twice as wide where it must be.
func TestAddTillFull(t *testing.T) {
	p := newPair(t)
	wide := 1
	for n := range api.MaxLeaves {
		if n == wide {
			wide *= 2
		}
		if i, e := p.add(leaf(n)); i != n || e != api.OK || p.x.Leaves() != wide {
			t.Fatalf("member %d: leaf %d, error %d, %d leaves", n, i, e, p.x.Leaves())
		}
	}
	i, e := p.add(leaf(999))
	if i != 0 {
		t.Errorf("leaf %d", i)
	}
	p.refused(e, api.ErrFull)
	for _, i := range []int{63, 0, 17, 31, 32} { // room again, for one
		p.remove(i)
		if j, e := p.add(leaf(1000 + i)); j != i || e != api.OK {
			t.Fatalf("leaf %d, error %d, not %d", j, e, i)
		}
		_, e := p.add(leaf(999))
		p.refused(e, api.ErrFull)
	}
}

// P1403: at the first blank leaf, wherever there are others.
func TestAddAtFirstBlank(t *testing.T) {
	for first := range 8 {
		for second := first + 1; second < 8; second++ {
			p := filled(t, 8)
			p.commit((first + 3) % 8)
			p.remove(second)
			p.remove(first)
			left := p.x.Leaves()
			if i := p.join(); i != first || p.x.Leaves() != left {
				t.Errorf("leaf %d, not %d", i, first)
			}
			if i := p.join(); i != second {
				t.Errorf("leaf %d, not %d", i, second)
			}
			p.check()
		}
	}
}

// P1403: among the Unmerged of each Parent on its Path, in rising order.
func TestAddUnmerged(t *testing.T) {
	p := filled(t, 8)
	for _, i := range []int{1, 2, 5} {
		p.remove(i)
	}
	p.commit(0)
	p.commit(7)
	p.check()
	for _, want := range [][]int{{1}, {1, 2}, {1, 2, 5}} {
		p.join()
		q, ok := p.x.Parent(7)
		if !ok || !slices.Equal(q.Unmerged, want) {
			t.Errorf("Unmerged %v, not %v", q.Unmerged, want)
		}
		p.check()
	}
	q, _ := p.x.Parent(3)
	r, _ := p.x.Parent(11)
	if !slices.Equal(q.Unmerged, []int{1, 2}) || !slices.Equal(r.Unmerged, []int{5}) {
		t.Errorf("Unmerged %v and %v", q.Unmerged, r.Unmerged)
	}
	p.join() // leaf 8: the tree is wider, and nobody above it is a Parent
	if q, ok := p.x.Parent(15); ok {
		t.Errorf("a Parent %v", q)
	}
	p.check()
}

// P1403: once, where a Parent has the number already; in its order, where others are there.
func TestAddUnmergedAlready(t *testing.T) {
	for _, list := range [][]int{{}, {0}, {1}, {2}, {0, 1}, {0, 3}, {2, 3}, {0, 1, 2, 3}, {63}, {0, 63}, {1, 63}} {
		s := filled(t, 4).s
		s.leaves[1] = nil
		s.parents[1] = &nodes.Parent{Enc: key(1), Unmerged: slices.Clone(list)}
		s.parents[3] = &nodes.Parent{Enc: key(2), Hash: key(3), Unmerged: slices.Clone(list)}
		s.parents[5] = &nodes.Parent{Enc: key(4), Unmerged: slices.Clone(list)}
		p := read(t, s)
		want := append(slices.Clone(list), 1)
		slices.Sort(want)
		want = slices.Compact(want)
		if i := p.join(); i != 1 {
			t.Fatalf("leaf %d", i)
		}
		p.check()
		for x, want := range map[int][]int{1: want, 3: want, 5: list} {
			if q, _ := p.x.Parent(x); !slices.Equal(q.Unmerged, want) {
				t.Errorf("Unmerged at %d: %v, not %v", x, q.Unmerged, want)
			}
		}
	}
}

// changed: a tree with blank leaves, blank places, and Unmerged ones.
func changed(t *testing.T) *pair {
	p := filled(t, 12)
	p.commit(3)
	p.commit(10)
	p.remove(2)
	p.remove(9)
	p.commit(0)
	p.join() // leaf 2
	p.commit(11)
	p.remove(5)
	p.commit(7)
	p.check()
	return p
}

// P1403: Set of each leaf: its Path is blank, all else as it was.
func TestSet(t *testing.T) {
	whole := changed(t)
	for i := range whole.x.Leaves() {
		p := whole.copy()
		e := p.set(i, leaf(500))
		want := api.OK
		if whole.s.leaves[i] == nil {
			want = api.ErrNone
		}
		p.refused(e, want)
		if want == api.ErrNone && !bytes.Equal(p.x.Encode(), whole.x.Encode()) {
			t.Errorf("leaf %d: changed", i)
		}
		for _, x := range p.s.way(i) {
			if _, ok := p.x.Parent(x); ok && want == api.OK {
				t.Errorf("leaf %d: a Parent at %d", i, x)
			}
		}
		whole.check()
	}
}

// P1403: Remove of each leaf.
func TestRemove(t *testing.T) {
	whole := changed(t)
	for i := range whole.x.Leaves() {
		p := whole.copy()
		e := p.remove(i)
		want := api.OK
		if whole.s.leaves[i] == nil {
			want = api.ErrNone
		}
		p.refused(e, want)
		if _, ok := p.x.Leaf(i); ok {
			t.Errorf("leaf %d is there", i)
		}
		whole.check()
	}
}

// P1403: PutLeaf of each leaf, blank or not: nothing else changes.
func TestPutLeaf(t *testing.T) {
	whole := changed(t)
	for i := range whole.x.Leaves() {
		p := whole.copy()
		if e := p.putLeaf(i, leaf(500)); e != api.OK {
			t.Errorf("leaf %d: error %d", i, e)
		}
		p.check()
		for x := range whole.s.parents {
			q, ok := p.x.Parent(x)
			r, okToo := whole.x.Parent(x)
			if ok != okToo || !sameParent(q, r) {
				t.Errorf("leaf %d: the Parent at %d is another one", i, x)
			}
		}
		if l, ok := p.x.Leaf(i); !ok || !sameLeaf(l, leaf(500)) {
			t.Errorf("leaf %d: %v", i, l)
		}
	}
	p := newPair(t)
	if e := p.putLeaf(0, leaf(1)); e != api.OK {
		t.Errorf("error %d", e)
	}
	p.check()
}

// P1403: leaves that there are not: ErrArg, and the tree is as it was.
func TestChangesOfNoLeaf(t *testing.T) {
	for _, p := range []*pair{newPair(t), filled(t, 1), filled(t, 5), changed(t), filled(t, 64)} {
		for _, i := range append([]int{p.x.Leaves(), p.x.Leaves() + 1, 2*p.x.Leaves() - 1}, odd...) {
			for _, e := range []api.Errno{p.set(i, leaf(1)), p.remove(i), p.putLeaf(i, leaf(1))} {
				if e != api.ErrArg {
					t.Errorf("leaf %d of %d: error %d", i, p.x.Leaves(), e)
				}
			}
			for n := range 7 {
				if h, e := p.setPath(i, p.keys(n)); e != api.ErrArg || len(h) != 0 {
					t.Errorf("leaf %d of %d: %x, error %d", i, p.x.Leaves(), h, e)
				}
			}
		}
		p.check()
	}
}

// P1403: leaves that may not be: ErrArg, also where i is blank, or the tree is full.
func TestChangesOfBadLeaves(t *testing.T) {
	for _, p := range []*pair{newPair(t), filled(t, 5), changed(t), filled(t, 64)} {
		for _, l := range badLeaves() {
			if i, e := p.add(l); i != 0 || e != api.ErrArg {
				t.Errorf("Add: leaf %d, error %d", i, e)
			}
			for i := -1; i <= p.x.Leaves(); i++ {
				if e, f := p.set(i, l), p.putLeaf(i, l); e != api.ErrArg || f != api.ErrArg {
					t.Errorf("leaf %d: errors %d, %d", i, e, f)
				}
			}
		}
		p.check()
	}
}

// P1403: leaves of all Sources stand as they were handed in.
func TestLeavesOfAllSources(t *testing.T) {
	p := filled(t, 3)
	offered, updated := leaf(800), leaf(801)
	offered.Source, updated.Source = nodes.Offered, nodes.Updated
	long := leaf(802)
	long.Name = bytes.Repeat([]byte{0}, api.MaxName)
	for _, l := range []nodes.Leaf{offered, updated, long, committed(803, nil), committed(804, key(5))} {
		i, e := p.add(l)
		if got, ok := p.x.Leaf(i); e != api.OK || !ok || !sameLeaf(got, l) {
			t.Errorf("error %d, %v", e, got)
		}
		if e, f := p.set(0, l), p.putLeaf(1, l); e != api.OK || f != api.OK {
			t.Errorf("errors %d, %d", e, f)
		}
		p.check()
	}
}

// P1403: half as wide, as often as it may be, down to one leaf.
func TestRemoveHalves(t *testing.T) {
	p := filled(t, 64)
	p.commit(1)
	p.commit(63)
	for i := 63; i >= 0; i-- {
		wide := 1
		for wide < i {
			wide *= 2
		}
		if e := p.remove(i); e != api.OK || p.x.Leaves() != wide {
			t.Fatalf("leaf %d: error %d, %d leaves", i, e, p.x.Leaves())
		}
		p.check()
	}
	if e := p.remove(0); e != api.ErrNone {
		t.Errorf("error %d", e)
	}
	if i := p.join(); i != 0 || p.x.Leaves() != 1 {
		t.Errorf("leaf %d of %d", i, p.x.Leaves())
	}
}

// P1403: several halves at once; the left half may be blank, the right one not.
func TestRemoveHalvesAtOnce(t *testing.T) {
	for left := range 33 {
		p := filled(t, 64)
		p.commit(40)
		for i := left; i < 63; i++ {
			p.remove(i)
		}
		if p.x.Leaves() != 64 {
			t.Fatalf("%d leaves", p.x.Leaves())
		}
		p.check()
		wide := 1
		for wide < left {
			wide *= 2
		}
		if e := p.remove(63); e != api.OK || p.x.Leaves() != wide {
			t.Errorf("%d members: error %d, %d leaves", left, e, p.x.Leaves())
		}
		p.check()
	}
	p := filled(t, 8)
	for i := range 7 {
		p.remove(i)
	}
	if p.x.Leaves() != 8 || !slices.Equal(p.x.Members(), []int{7}) {
		t.Errorf("%d leaves, members %v", p.x.Leaves(), p.x.Members())
	}
	p.check()
}

// P1403: Parents of blank leaves, as only bytes can tell them, keep no half, and go with it.
func TestRemoveHalvesWithParents(t *testing.T) {
	for _, members := range []int{0, 1, 2, 3, 4} {
		s := filled(t, 8).s
		for i := members; i < 7; i++ {
			s.leaves[i] = nil
		}
		for x := 1; x < 15; x += 2 {
			s.parents[x] = &nodes.Parent{Enc: key(x), Unmerged: []int{4}}
		}
		p := read(t, s)
		if e := p.remove(7); e != api.OK || p.x.Leaves() != []int{1, 1, 2, 4, 4}[members] {
			t.Errorf("%d members: error %d, %d leaves", members, e, p.x.Leaves())
		}
		p.check()
		for range 9 { // wider again: nothing is left of what stood there
			p.join()
			p.check()
		}
	}
}
