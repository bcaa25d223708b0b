package tree_test

import (
	"bytes"
	"encoding/binary"
	"math"
	"math/rand"
	"slices"
	"testing"

	"synod/api"
	"synod/nodes"
	"synod/tree"
)

// odd: numbers that are no place and no leaf of any tree; twice some of them is one, if nobody looks.
var odd = []int{math.MinInt, math.MinInt + 1, math.MinInt + 2, -1 << 62, -128, -127, -64, -3, -2, -1, 127, 128, 129, 255, 1 << 31, 1 << 32, 1<<62 - 1, 1 << 62, 1<<62 + 1, 1<<62 + 2, math.MaxInt - 1, math.MaxInt}

// key: the nth of many.
func key(n int) []byte { return sum(binary.BigEndian.AppendUint64([]byte("key"), uint64(n))) }

// leaf: one that may be, with the keys 2n and 2n + 1.
func leaf(n int) nodes.Leaf {
	return nodes.Leaf{Enc: key(2 * n), Sig: key(2*n + 1), Name: key(n)[:1+n%32], Source: nodes.Offered + n%2, Signature: slices.Concat(key(n), key(n))}
}

// committed: a leaf with that hash.
func committed(n int, hash []byte) nodes.Leaf {
	l := leaf(n)
	l.Source, l.Hash = nodes.Committed, hash
	return l
}

// badLeaves: that may not be, each by one field.
func badLeaves() []nodes.Leaf {
	out := []nodes.Leaf{{}}
	for _, change := range []func(l *nodes.Leaf){
		func(l *nodes.Leaf) { l.Enc = nil },
		func(l *nodes.Leaf) { l.Enc = l.Enc[:31] },
		func(l *nodes.Leaf) { l.Enc = append(l.Enc, 0) },
		func(l *nodes.Leaf) { l.Sig = l.Sig[:31] },
		func(l *nodes.Leaf) { l.Sig = append(l.Sig, 0) },
		func(l *nodes.Leaf) { l.Name = nil },
		func(l *nodes.Leaf) { l.Name = make([]byte, api.MaxName+1) },
		func(l *nodes.Leaf) { l.Source = 0 },
		func(l *nodes.Leaf) { l.Source = 4 },
		func(l *nodes.Leaf) { l.Source = -1 },
		func(l *nodes.Leaf) { l.Hash = make([]byte, 32) },
		func(l *nodes.Leaf) { l.Source, l.Hash = nodes.Committed, make([]byte, 31) },
		func(l *nodes.Leaf) { l.Source, l.Hash = nodes.Committed, make([]byte, 33) },
		func(l *nodes.Leaf) { l.Signature = l.Signature[:63] },
		func(l *nodes.Leaf) { l.Signature = append(l.Signature, 0) },
	} {
		l := leaf(700)
		change(&l)
		out = append(out, l)
	}
	return out
}

func sameLeaf(a, b nodes.Leaf) bool {
	return bytes.Equal(a.Enc, b.Enc) && bytes.Equal(a.Sig, b.Sig) && bytes.Equal(a.Name, b.Name) && a.Source == b.Source && bytes.Equal(a.Hash, b.Hash) && bytes.Equal(a.Signature, b.Signature)
}

func sameParent(a, b nodes.Parent) bool {
	return bytes.Equal(a.Enc, b.Enc) && bytes.Equal(a.Hash, b.Hash) && slices.Equal(a.Unmerged, b.Unmerged)
}

// pair: a tree and what it should be; each change is asked of both, and all looks are held against each other behind it.
type pair struct {
	*testing.T
	x     *tree.Tree
	s     *slow
	fresh int // keys that nobody has begin here
}

func newPair(t *testing.T) *pair { return &pair{t, tree.New(), slowNew(), 10000} }

// filled: with so many members, and no Parent.
func filled(t *testing.T, members int) *pair {
	p := newPair(t)
	for range members {
		p.join()
	}
	p.check()
	return p
}

// read: the tree of s, by its bytes.
func read(t *testing.T, s *slow) *pair {
	t.Helper()
	x, e := tree.Decode(s.encode())
	if e != api.OK || x == nil {
		t.Fatalf("Decode: error %d of %x", e, s.encode())
	}
	p := &pair{t, x, s.copy(), 20000}
	p.check()
	return p
}

// copy: of both.
func (p *pair) copy() *pair { return &pair{p.T, p.x.Copy(), p.s.copy(), p.fresh} }

func (p *pair) number() int {
	p.fresh++
	return p.fresh
}

func (p *pair) keys(n int) [][]byte {
	var out [][]byte
	for range n {
		out = append(out, key(2*p.number()))
	}
	return out
}

// add, set, remove, putLeaf, setPath: of both, with the same answers.
func (p *pair) add(l nodes.Leaf) (int, api.Errno) {
	p.Helper()
	i, e := p.x.Add(l)
	if j, f := p.s.add(l); i != j || e != f {
		p.Fatalf("Add: %d, error %d, not %d, %d", i, e, j, f)
	}
	return i, e
}

func (p *pair) set(i int, l nodes.Leaf) api.Errno {
	p.Helper()
	e := p.x.Set(i, l)
	if f := p.s.set(i, l); e != f {
		p.Fatalf("Set(%d): error %d, not %d", i, e, f)
	}
	return e
}

func (p *pair) remove(i int) api.Errno {
	p.Helper()
	e := p.x.Remove(i)
	if f := p.s.remove(i); e != f {
		p.Fatalf("Remove(%d): error %d, not %d", i, e, f)
	}
	return e
}

func (p *pair) putLeaf(i int, l nodes.Leaf) api.Errno {
	p.Helper()
	e := p.x.PutLeaf(i, l)
	if f := p.s.putLeaf(i, l); e != f {
		p.Fatalf("PutLeaf(%d): error %d, not %d", i, e, f)
	}
	return e
}

func (p *pair) setPath(i int, keys [][]byte) ([]byte, api.Errno) {
	p.Helper()
	h, e := p.x.SetPath(i, keys)
	if g, f := p.s.setPath(i, keys); !bytes.Equal(h, g) || e != f {
		p.Fatalf("SetPath(%d): %x, error %d, not %x, %d", i, h, e, g, f)
	}
	return h, e
}

// join, update, commit: with keys that nobody has.
func (p *pair) join() int {
	p.Helper()
	i, _ := p.add(leaf(p.number()))
	return i
}

func (p *pair) update(i int) {
	p.Helper()
	p.set(i, leaf(p.number()))
}

func (p *pair) commit(i int) {
	p.Helper()
	h, e := p.setPath(i, p.keys(len(p.s.filtered(i))))
	if f := p.putLeaf(i, committed(p.number(), h)); e != api.OK || f != api.OK {
		p.Fatalf("commit of %d: errors %d, %d", i, e, f)
	}
}

// check: all looks, at each place and at none.
func (p *pair) check() {
	p.Helper()
	if n := p.x.Leaves(); n != len(p.s.leaves) {
		p.Fatalf("Leaves: %d, not %d", n, len(p.s.leaves))
	}
	if m := p.x.Members(); !slices.Equal(m, p.s.members()) {
		p.Fatalf("Members: %v, not %v", m, p.s.members())
	}
	if h := p.x.Hash(); !bytes.Equal(h, p.s.hashAt(len(p.s.leaves)-1)) {
		p.Fatalf("Hash: %x", h)
	}
	if e := p.x.Valid(); e != p.s.valid() {
		p.Fatalf("Valid: error %d, not %d", e, p.s.valid())
	}
	if b := p.x.Encode(); !bytes.Equal(b, p.s.encode()) {
		p.Fatalf("Encode: %x, not %x", b, p.s.encode())
	}
	for i := range p.s.leaves {
		p.checkLeaf(i)
	}
	for x := range p.s.parents {
		p.checkPlace(x)
	}
	p.checkNone(len(p.s.leaves), len(p.s.parents))
}

func (p *pair) checkLeaf(i int) {
	p.Helper()
	want := p.s.leaves[i]
	if want == nil {
		want = &nodes.Leaf{}
	}
	if l, ok := p.x.Leaf(i); !sameLeaf(l, *want) || ok != (p.s.leaves[i] != nil) {
		p.Fatalf("Leaf(%d): %v, %v", i, l, ok)
	}
	if f := p.x.Filtered(i); !slices.Equal(f, p.s.filtered(i)) {
		p.Fatalf("Filtered(%d): %v, not %v", i, f, p.s.filtered(i))
	}
}

func (p *pair) checkPlace(x int) {
	p.Helper()
	want := p.s.parents[x]
	if want == nil {
		want = &nodes.Parent{}
	}
	if q, ok := p.x.Parent(x); !sameParent(q, *want) || ok != (p.s.parents[x] != nil) {
		p.Fatalf("Parent(%d): %v, %v", x, q, ok)
	}
	if r := p.x.Resolution(x); !slices.Equal(r, p.s.resolution(x)) {
		p.Fatalf("Resolution(%d): %v, not %v", x, r, p.s.resolution(x))
	}
	if h := p.x.HashAt(x); !bytes.Equal(h, p.s.hashAt(x)) {
		p.Fatalf("HashAt(%d): %x, not %x", x, h, p.s.hashAt(x))
	}
}

// checkNone: what is no leaf, and what is no place of a tree of so many.
func (p *pair) checkNone(leaves, places int) {
	p.Helper()
	for _, i := range append([]int{leaves, leaves + 1, 2*leaves - 1, 2 * leaves}, odd...) {
		l, ok := p.x.Leaf(i)
		if f := p.x.Filtered(i); ok || !sameLeaf(l, nodes.Leaf{}) || len(f) != 0 {
			p.Fatalf("leaf %d: %v, %v, %v", i, l, ok, f)
		}
	}
	for _, x := range append([]int{places, places + 1, places + 2}, odd...) {
		q, ok := p.x.Parent(x)
		r, h := p.x.Resolution(x), p.x.HashAt(x)
		if ok || !sameParent(q, nodes.Parent{}) || len(r) != 0 || len(h) != 0 {
			p.Fatalf("place %d: %v, %v, %v, %x", x, q, ok, r, h)
		}
	}
}

// refused: the error, and the tree is as it was.
func (p *pair) refused(got, want api.Errno) {
	p.Helper()
	if got != want {
		p.Fatalf("error %d, not %d", got, want)
	}
	p.check()
}

// live: members come, go, update and commit, as chance has it; to grow counts for more than to shrink.
func (p *pair) live(random *rand.Rand, steps, grow int) {
	p.Helper()
	for range steps {
		members := p.s.members()
		some := 0
		if len(members) > 0 {
			some = members[random.Intn(len(members))]
		}
		switch n := random.Intn(10); {
		case len(members) == 0 || n < grow:
			p.join()
		case n < 6:
			p.remove(some)
		case n < 7:
			p.update(some)
		default:
			p.commit(some)
		}
	}
}

// grown: trees of some steps of life, each unlike the others.
func grown(t *testing.T, seed int64, count int) []*pair {
	t.Helper()
	random := rand.New(rand.NewSource(seed))
	var out []*pair
	for range count {
		p := filled(t, 1+random.Intn(20))
		p.live(random, random.Intn(40), 1+random.Intn(5))
		out = append(out, p)
	}
	return out
}

// strange: any leaves and Parents anywhere, with any Unmerged, as only bytes can tell them; there is a member in the right half.
func strange(random *rand.Rand) *slow {
	s := slowNew()
	for range random.Intn(5) {
		s.leaves = append(s.leaves, s.leaves...)
		s.parents = append(s.parents, append([]*nodes.Parent{nil}, s.parents...)...)
	}
	n := len(s.leaves)
	for i := range n {
		if random.Intn(3) > 0 || i == n-1 {
			l := leaf(random.Intn(1000))
			if random.Intn(2) == 0 {
				l = committed(random.Intn(1000), key(random.Intn(9)))
			}
			s.leaves[i] = &l
		}
	}
	for x := 1; x < len(s.parents); x += 2 {
		if random.Intn(2) == 0 {
			s.parents[x] = &nodes.Parent{Enc: key(random.Intn(1000)), Hash: key(1)[:32*random.Intn(2)], Unmerged: someNumbers(random, 2*n)}
		}
	}
	return s
}

// someNumbers: rising, of leaves of a tree and of one twice as wide.
func someNumbers(random *rand.Rand, end int) []int {
	var out []int
	for i := range min(end, api.MaxLeaves) {
		if random.Intn(6) == 0 {
			out = append(out, i)
		}
	}
	return out
}
