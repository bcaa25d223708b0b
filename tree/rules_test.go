package tree_test

import (
	"bytes"
	"slices"
	"testing"

	"synod/api"
	"synod/nodes"
	"synod/tree"
)

// P1401: every call of a nil Tree, and of one that nobody made.
func TestNoTree(t *testing.T) {
	for _, x := range []*tree.Tree{nil, {}, new(tree.Tree)} {
		for _, i := range append([]int{0, 1, 2, 3}, odd...) {
			checkNoTreeAt(t, x, i)
		}
		if i, e := x.Add(leaf(1)); i != 0 || e != api.ErrArg {
			t.Errorf("Add: %d, error %d", i, e)
		}
		if i, e := x.Add(nodes.Leaf{}); i != 0 || e != api.ErrArg {
			t.Errorf("Add: %d, error %d", i, e)
		}
		if x.Copy() != nil || x.Leaves() != 0 || len(x.Members()) != 0 || len(x.Hash()) != 0 || x.Valid() != api.ErrArg || len(x.Encode()) != 0 {
			t.Error("an answer")
		}
	}
}

func checkNoTreeAt(t *testing.T, x *tree.Tree, i int) {
	t.Helper()
	if l, ok := x.Leaf(i); ok || !sameLeaf(l, nodes.Leaf{}) {
		t.Errorf("Leaf(%d): %v", i, l)
	}
	if p, ok := x.Parent(i); ok || !sameParent(p, nodes.Parent{}) {
		t.Errorf("Parent(%d): %v", i, p)
	}
	if len(x.Filtered(i)) != 0 || len(x.Resolution(i)) != 0 || len(x.HashAt(i)) != 0 {
		t.Errorf("%d: an answer", i)
	}
	for _, l := range []nodes.Leaf{leaf(1), {}} {
		if e, f := x.Set(i, l), x.PutLeaf(i, l); e != api.ErrArg || f != api.ErrArg {
			t.Errorf("%d: errors %d, %d", i, e, f)
		}
	}
	if e := x.Remove(i); e != api.ErrArg {
		t.Errorf("Remove(%d): error %d", i, e)
	}
	for _, keys := range [][][]byte{nil, {}, {key(1)}} {
		if h, e := x.SetPath(i, keys); e != api.ErrArg || len(h) != 0 {
			t.Errorf("SetPath(%d): %x, error %d", i, h, e)
		}
	}
}

// spoil: b and the room behind it.
func spoil[T byte | int](b []T) {
	b = b[:cap(b)]
	for i := range b {
		b[i] ^= 85
	}
}

// roomy: b with room behind it, and the whole of it.
func roomy(b []byte) (part, whole []byte) {
	whole = append(slices.Clone(b), 1, 2, 3, 4, 5, 6, 7, 8, 9, 10)
	return whole[:len(b)], whole
}

func leafLists(l *nodes.Leaf) []*[]byte {
	return []*[]byte{&l.Enc, &l.Sig, &l.Name, &l.Hash, &l.Signature}
}

// roomyLeaf: a copy of l with room behind each list, and all of that memory.
func roomyLeaf(l nodes.Leaf) (nodes.Leaf, [][]byte) {
	var all [][]byte
	for _, list := range leafLists(&l) {
		part, whole := roomy(*list)
		*list, all = part, append(all, whole)
	}
	return l, all
}

func clones(lists [][]byte) [][]byte {
	var out [][]byte
	for _, b := range lists {
		out = append(out, bytes.Clone(b))
	}
	return out
}

// checkKeepsNothing: a call does not change the memory that its arguments are in, nor keep it.
func checkKeepsNothing(p *pair, memory [][]byte, call func()) {
	p.Helper()
	before := clones(memory)
	call()
	if !slices.EqualFunc(memory, before, bytes.Equal) {
		p.Fatal("an argument is changed")
	}
	p.check()
	for _, b := range memory {
		spoil(b)
	}
	p.check()
}

// P1401: leaves and keys that are handed in, taken or refused.
func TestHandedIn(t *testing.T) {
	for _, l := range append(badLeaves(), leaf(1), leaf(2), committed(3, key(3)), committed(4, nil)) {
		p := changed(t)
		p.check()
		one, memory := roomyLeaf(l)
		checkKeepsNothing(p, memory, func() { p.add(one) })
		two, memory := roomyLeaf(l)
		checkKeepsNothing(p, memory, func() { p.set(4, two) })
		three, memory := roomyLeaf(l)
		checkKeepsNothing(p, memory, func() { p.putLeaf(6, three) })
	}
	p := changed(t)
	for i := range p.x.Leaves() {
		for more := range 2 {
			var keys, memory [][]byte
			for _, k := range p.keys(len(p.s.filtered(i)) + more) {
				part, whole := roomy(k)
				keys, memory = append(keys, part), append(memory, whole)
			}
			checkKeepsNothing(p, memory, func() { p.setPath(i, keys) })
			for k := range keys {
				keys[k] = nil
			}
			p.check()
		}
	}
}

// P1401: lists of a leaf that share memory, where they are handed in, share none in the tree.
func TestHandedInShared(t *testing.T) {
	b := key(1)
	p := filled(t, 2)
	p.add(nodes.Leaf{Enc: b, Sig: b, Name: b, Source: nodes.Committed, Hash: b, Signature: append(b, b...)})
	l, _ := p.x.Leaf(2)
	spoil(l.Enc)
	if !bytes.Equal(l.Sig, key(1)) || !bytes.Equal(l.Name, key(1)) || !bytes.Equal(l.Hash, key(1)) {
		t.Error("lists of one answer share memory")
	}
	p.check()
	k := key(2)
	h, _ := p.setPath(2, slices.Repeat([][]byte{k}, len(p.s.filtered(2))))
	spoil(k)
	spoil(h)
	p.check()
}

// P1401: all that is handed out is new memory.
func TestHandedOut(t *testing.T) {
	for _, p := range []*pair{filled(t, 3), changed(t), unmerged(t)} {
		for i := range p.x.Leaves() {
			one, _ := p.x.Leaf(i)
			two, _ := p.x.Leaf(i)
			for _, list := range leafLists(&one) {
				before := ownLeaf(two)
				spoil(*list)
				if !sameLeaf(two, before) {
					t.Fatal("two answers share memory")
				}
			}
			spoil(p.x.Filtered(i))
		}
		for x := range p.s.parents {
			q, _ := p.x.Parent(x)
			spoil(q.Enc)
			spoil(q.Hash)
			spoil(q.Unmerged)
			spoil(p.x.Resolution(x))
			spoil(p.x.HashAt(x))
		}
		spoil(p.x.Members())
		spoil(p.x.Hash())
		spoil(p.x.Encode())
		p.check()
		for i := range p.x.Leaves() {
			h, _ := p.setPath(i, p.keys(len(p.s.filtered(i))))
			spoil(h)
			p.check()
		}
	}
}

// P1401: the lists of one leaf that is handed out share nothing, not even the room behind them.
func TestListsOfOneLeaf(t *testing.T) {
	p := filled(t, 1)
	p.putLeaf(0, committed(5, key(6)))
	want, _ := p.x.Leaf(0)
	for k := range leafLists(&want) {
		l, _ := p.x.Leaf(0)
		spoil(*leafLists(&l)[k])
		for other, list := range leafLists(&l) {
			if other != k && !bytes.Equal(*list, *leafLists(&want)[other]) {
				t.Errorf("lists %d and %d share memory", k, other)
			}
		}
	}
}

// P1401: bytes that are read, or refused, are not changed, and not kept.
func TestReadMemory(t *testing.T) {
	for _, p := range []*pair{filled(t, 3), changed(t), unmerged(t)} {
		b, whole := roomy(p.s.encode())
		before := bytes.Clone(whole)
		x, e := tree.Decode(b)
		for n := 0; n < len(b); n += 7 {
			tree.Decode(b[:n])
		}
		if e != api.OK || !bytes.Equal(whole, before) {
			t.Fatalf("error %d, or an argument is changed", e)
		}
		spoil(whole)
		(&pair{t, x, p.s, 1}).check()
	}
}

// P1401: a copy and its tree do not change each other, whichever changes, and however often it was copied.
func TestCopy(t *testing.T) {
	for _, whole := range []*pair{newPair(t), filled(t, 1), filled(t, 8), changed(t), unmerged(t)} {
		for _, change := range []func(p *pair){
			func(p *pair) { p.join() },
			func(p *pair) { p.update(0) },
			func(p *pair) { p.remove(p.x.Leaves() - 1) },
			func(p *pair) { p.remove(0) },
			func(p *pair) { p.putLeaf(0, leaf(77)) },
			func(p *pair) { p.commit(0) },
			func(p *pair) { p.setPath(p.x.Leaves()-1, p.keys(len(p.s.filtered(p.x.Leaves()-1)))) },
			func(p *pair) {
				for range 30 {
					p.join()
				}
			},
		} {
			one := whole.copy()
			two, three := one.copy(), one.copy()
			one.check()
			two.check()
			change(one)
			two.check()
			change(three)
			three.check()
			one.check()
			two.check()
		}
		whole.check()
	}
}

// P1401: of a tree and its copy each has its own Unmerged, though both go on from the same ones.
func TestCopyUnmerged(t *testing.T) {
	p := filled(t, 32)
	for i := 1; i < 31; i++ {
		p.remove(i)
	}
	p.commit(0)
	for first := 1; first < 30; first++ {
		q := p.copy()
		q.putLeaf(first, leaf(1)) // so that another one is the first blank leaf there
		if i := q.join(); i != first+1 {
			t.Fatalf("leaf %d", i)
		}
		if i := p.join(); i != first {
			t.Fatalf("leaf %d", i)
		}
		q.check()
		p.check()
	}
}

// P1401: looks change nothing, and answer the same again.
func TestLooksTwice(t *testing.T) {
	for _, p := range []*pair{newPair(t), changed(t), unmerged(t)} {
		for range 3 {
			p.check()
		}
	}
}

// P1401: nil and empty mean the same.
func TestNilAndEmpty(t *testing.T) {
	one, two := filled(t, 3), filled(t, 3)
	l := leaf(9)
	one.add(l)
	l.Hash = []byte{}
	two.add(l)
	if !bytes.Equal(one.x.Encode(), two.x.Encode()) || !bytes.Equal(one.x.Hash(), two.x.Hash()) {
		t.Error("unlike")
	}
	for _, list := range [][]byte{nil, {}} {
		if _, e := one.setPath(0, [][]byte{list, list}); e != api.ErrArg {
			t.Errorf("error %d", e)
		}
	}
}
