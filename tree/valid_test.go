package tree_test

import (
	"bytes"
	"math/rand"
	"slices"
	"testing"

	"synod/api"
	"synod/nodes"
)

// unmerged: eight leaves; 1 and 6 are Unmerged at 3 and 7, at 11 and 7; Valid.
func unmerged(t *testing.T) *pair {
	p := filled(t, 8)
	p.remove(1)
	p.remove(6)
	p.commit(4)
	p.commit(2)
	p.join()
	p.join()
	p.check()
	for x, want := range map[int][]int{3: {1}, 5: {}, 9: {}, 11: {6}, 7: {1, 6}} {
		if q, ok := p.x.Parent(x); !ok || !slices.Equal(q.Unmerged, want) {
			t.Fatalf("Unmerged at %d: %v, not %v", x, q.Unmerged, want)
		}
	}
	if e := p.x.Valid(); e != api.OK {
		t.Fatalf("error %d", e)
	}
	return p
}

// checkValid: what the words say of it, and what is wanted.
func checkValid(t *testing.T, name string, s *slow, want api.Errno) {
	t.Helper()
	if e := s.valid(); e != want {
		t.Fatalf("%s: the words say %d, not %d", name, e, want)
	}
	if e := read(t, s).x.Valid(); e != want {
		t.Errorf("%s: error %d, not %d", name, e, want)
	}
}

// fault: something wrong in a tree that was Valid.
type fault struct {
	name   string
	want   api.Errno
	change func(s *slow)
}

func treeFaults() []fault {
	list := func(x int, list ...int) func(s *slow) { return func(s *slow) { s.parents[x].Unmerged = list } }
	return []fault{
		{"an Unmerged leaf is blank", api.ErrTree, func(s *slow) { s.leaves[1] = nil }},
		{"another one is blank", api.ErrTree, func(s *slow) { s.leaves[6] = nil }},
		{"below, but the tree does not reach so far", api.ErrTree, list(7, 1, 6, 8)},
		{"far behind the tree", api.ErrTree, list(7, 1, 6, 63)},
		{"not below", api.ErrTree, list(3, 1, 4)},
		{"not below, to the left", api.ErrTree, list(11, 3, 6)},
		{"not below, where nobody else is", api.ErrTree, list(5, 0)},
		{"a Parent between has it not", api.ErrTree, list(3)},
		{"a Parent between has another one", api.ErrTree, list(3, 0)},
		{"a Parent lower down has it not", api.ErrTree, list(7, 1, 2, 6)},
		{"two Parents between have it not", api.ErrTree, list(7, 1, 3, 6)},
	}
}

// P1405: Unmerged leaves that may not be.
func TestValidTree(t *testing.T) {
	for _, f := range treeFaults() {
		s := unmerged(t).s.copy()
		f.change(s)
		checkValid(t, f.name, s, f.want)
	}
}

// P1405: all Unmerged of a place with no Parent between.
func TestValidTreeWithBlanksBetween(t *testing.T) {
	p := filled(t, 8)
	for i := 1; i < 7; i++ {
		p.remove(i)
	}
	p.commit(0) // 7 alone
	for range 6 {
		p.join()
	}
	p.check()
	if q, _ := p.x.Parent(7); !slices.Equal(q.Unmerged, []int{1, 2, 3, 4, 5, 6}) || p.x.Valid() != api.OK {
		t.Errorf("Unmerged %v, error %d", q.Unmerged, p.x.Valid())
	}
}

func hashFaults() []fault {
	return []fault{
		{"the leaf has another Hash", api.ErrHash, func(s *slow) { s.leaves[2].Hash[31] ^= 1 }},
		{"the leaf has no Hash", api.ErrHash, func(s *slow) { s.leaves[2].Hash = nil }},
		{"the leaf is not Committed", api.ErrHash, func(s *slow) { s.leaves[2].Source, s.leaves[2].Hash = nodes.Updated, nil }},
		{"the lowest Parent has another Hash", api.ErrHash, func(s *slow) { s.parents[5].Hash[0] ^= 1 }},
		{"the middle Parent has another Hash", api.ErrHash, func(s *slow) { s.parents[3].Hash[0] ^= 1 }},
		{"the middle Parent has no Hash", api.ErrHash, func(s *slow) { s.parents[3].Hash = nil }},
		{"the root has a Hash", api.ErrHash, func(s *slow) { s.parents[7].Hash = key(3) }},
		{"a Parent has another Enc", api.ErrHash, func(s *slow) { s.parents[11].Enc[5] ^= 1 }},
		{"the root has another Enc", api.ErrHash, func(s *slow) { s.parents[7].Enc[5] ^= 1 }},
		{"another leaf beside the lowest", api.ErrHash, func(s *slow) { s.leaves[3].Enc[0] ^= 1 }},
		{"another leaf beside the middle", api.ErrHash, func(s *slow) { s.leaves[0].Name[0] ^= 1 }},
		{"another leaf beside the root", api.ErrHash, func(s *slow) { s.leaves[7].Sig[0] ^= 1 }},
		{"a Parent beside the root is gone", api.ErrHash, func(s *slow) { s.parents[11] = nil }},
		{"the lowest Parent is gone", api.ErrHash, func(s *slow) { s.parents[5] = nil }},
		{"a leaf that is not Unmerged is gone", api.ErrHash, func(s *slow) { s.leaves[0] = nil }},
		{"an Unmerged leaf is counted in", api.ErrHash, func(s *slow) { s.parents[3].Unmerged, s.parents[7].Unmerged = nil, []int{6} }},
		{"one more is Unmerged", api.ErrHash, func(s *slow) { s.parents[3].Unmerged, s.parents[7].Unmerged = []int{0, 1}, []int{0, 1, 6} }},
	}
}

// P1405: Parents that are not held.
func TestValidHash(t *testing.T) {
	for _, f := range hashFaults() {
		s := unmerged(t).s.copy()
		f.change(s)
		checkValid(t, f.name, s, f.want)
	}
}

// P1405: another Unmerged leaf has no weight, whatever it is.
func TestValidOfOtherUnmerged(t *testing.T) {
	for _, i := range []int{1, 6} {
		s := unmerged(t).s.copy()
		*s.leaves[i] = committed(600, key(600))
		checkValid(t, "another Unmerged leaf", s, api.OK)
	}
}

// P1405: the Hash is there, but at a place that is not alone.
func TestValidHashNotAlone(t *testing.T) {
	p := filled(t, 4)
	p.remove(1)
	p.commit(0) // 3, held by leaf 0
	p.check()
	if _, ok := p.x.Parent(1); ok || p.x.Valid() != api.OK {
		t.Fatalf("error %d", p.x.Valid())
	}
	q := p.copy()
	q.putLeaf(1, leaf(900)) // beside leaf 0, and nobody's Unmerged
	q.check()
	if e := q.x.Valid(); e != api.ErrHash {
		t.Errorf("error %d", e)
	}
	q.s.parents[3].Unmerged = []int{1}
	checkValid(t, "Unmerged", q.s, api.OK)
	q.s.parents[1] = &nodes.Parent{Enc: key(7)} // a Parent that hides leaf 0
	checkValid(t, "hidden", q.s, api.ErrTree)
	q.s.parents[1].Unmerged = []int{1}
	checkValid(t, "hidden, with leaf 1", q.s, api.ErrHash)
}

// P1405: held by the left part and by the right one, by leaves and by Parents; the other part's hash is none.
func TestValidBothParts(t *testing.T) {
	for i := range 8 {
		p := filled(t, 8)
		p.commit(i)
		p.check()
		if e := p.x.Valid(); e != api.OK {
			t.Errorf("leaf %d: error %d", i, e)
		}
		l, _ := p.x.Leaf(i)
		q := p.copy()
		q.putLeaf(i^1, committed(300, l.Hash)) // the same Hash, but in the part that it is of
		q.putLeaf(i, leaf(301))
		q.check()
		if e := q.x.Valid(); e != api.ErrHash {
			t.Errorf("leaf %d: error %d", i, e)
		}
	}
}

// P1405: a Parent whose Hash would be held by its own leaf, were it not below another Parent.
func TestValidHashBelowAnother(t *testing.T) {
	p := filled(t, 4)
	h, _ := p.setPath(0, p.keys(2))
	p.putLeaf(0, committed(100, h))
	three, _ := p.x.Parent(3)
	beside := sum(slowVector(three.Enc), slowVector(nil), slowVector(p.x.HashAt(5)))
	one, _ := p.x.Parent(1)
	if !bytes.Equal(one.Hash, beside) {
		t.Fatalf("%x, not %x", one.Hash, beside)
	}
	p.s.parents[1].Hash = nil
	p.s.leaves[0].Hash = beside
	checkValid(t, "the leaf holds the root, past the Parent between", p.s, api.ErrHash)
}

// pathOf: leaf 2's, with these keys; Valid but for them.
func pathOf(t *testing.T, keys ...[]byte) *pair {
	p := filled(t, 8)
	h, e := p.setPath(2, keys)
	if e != api.OK {
		t.Fatalf("error %d", e)
	}
	p.putLeaf(2, committed(p.number(), h))
	return p
}

// P1405: two keys that are the same.
func TestValidKey(t *testing.T) {
	first, _ := filled(t, 8).x.Leaf(0)
	third, _ := filled(t, 8).x.Leaf(3)
	for name, p := range map[string]*pair{
		"Parent and Parent":        pathOf(t, key(1), key(2), key(1)),
		"Parent and Parent beside": pathOf(t, key(1), key(1), key(3)),
		"Parent and leaf":          pathOf(t, first.Enc, key(2), key(3)),
		"leaf and Parent":          pathOf(t, key(1), key(2), first.Enc),
		"leaf and the root":        pathOf(t, key(1), key(2), third.Enc),
	} {
		p.check()
		if e := p.x.Valid(); e != api.ErrKey {
			t.Errorf("%s: error %d", name, e)
		}
	}
	for a := range 8 {
		for b := range 8 {
			checkTwoLeaves(t, a, b)
		}
	}
}

// checkTwoLeaves: leaf a has a key of leaf b.
func checkTwoLeaves(t *testing.T, a, b int) {
	t.Helper()
	whole := filled(t, 8)
	other, _ := whole.x.Leaf(b)
	for k, change := range []func(l *nodes.Leaf){
		func(l *nodes.Leaf) { l.Enc = other.Enc },
		func(l *nodes.Leaf) { l.Sig = other.Sig },
		func(l *nodes.Leaf) { l.Enc = other.Sig }, // of another kind
		func(l *nodes.Leaf) { l.Sig = other.Enc },
		func(l *nodes.Leaf) { l.Name = other.Name },
		func(l *nodes.Leaf) { l.Signature = other.Signature },
	} {
		want := api.OK
		if a != b && k < 2 {
			want = api.ErrKey
		}
		l, _ := whole.x.Leaf(a)
		change(&l)
		p := whole.copy()
		p.putLeaf(a, l)
		if e := p.x.Valid(); e != want {
			t.Errorf("leaves %d and %d, change %d: error %d, not %d", a, b, k, e, want)
		}
	}
}

// P1405: a leaf's Sig that is a Parent's Enc is another kind of key.
func TestValidSigAndParent(t *testing.T) {
	first, _ := filled(t, 8).x.Leaf(0)
	p := pathOf(t, key(1), first.Sig, key(3))
	p.check()
	if e := p.x.Valid(); e != api.OK {
		t.Errorf("error %d", e)
	}
}

// P1405: several faults at once, in the order of the words, wherever they stand.
func TestValidOrder(t *testing.T) {
	keyFault := func(s *slow) { s.leaves[1].Enc = s.leaves[6].Enc } // both Unmerged: no hash hangs on them
	s := unmerged(t).s.copy()
	keyFault(s)
	checkValid(t, "key", s, api.ErrKey)
	for _, h := range hashFaults() {
		s := unmerged(t).s.copy()
		h.change(s)
		keyFault(s)
		checkValid(t, h.name+", key", s, api.ErrHash)
		for _, f := range treeFaults()[2:] { // the first two blank the leaves that keyFault is of
			if slices.Contains([]string{"an Unmerged leaf is counted in", "one more is Unmerged", "a Parent beside the root is gone", "the lowest Parent is gone"}, h.name) {
				continue // they change the same Parents
			}
			s := unmerged(t).s.copy()
			f.change(s)
			h.change(s)
			checkValid(t, f.name+", "+h.name, s, api.ErrTree)
			keyFault(s)
			checkValid(t, f.name+", "+h.name+", key", s, api.ErrTree)
		}
	}
	for _, f := range treeFaults()[2:] {
		s := unmerged(t).s.copy()
		f.change(s)
		keyFault(s)
		checkValid(t, f.name+", key", s, api.ErrTree)
	}
}

// P1405: any one thing changed in trees that are Valid, against the words.
func TestValidOfSpoilt(t *testing.T) {
	random := rand.New(rand.NewSource(4))
	var counts [api.ErrKey + 1]int
	for _, p := range grown(t, 5, 60) {
		for range 8 {
			s := p.s.copy()
			if len(s.members()) == 0 {
				continue
			}
			for range 1 + random.Intn(2) {
				spoilTree(random, s)
			}
			want := s.valid()
			checkValid(t, "spoilt", s, want)
			counts[want]++
		}
	}
	if counts[api.OK] < 20 || counts[api.ErrTree] < 20 || counts[api.ErrHash] < 20 || counts[api.ErrKey] < 20 {
		t.Errorf("too few of a kind: %v", counts)
	}
}

// spoilTree: something in s is another one; the last leaf stays.
func spoilTree(random *rand.Rand, s *slow) {
	members := s.members()
	i, j := members[random.Intn(len(members))], members[random.Intn(len(members))]
	var parents []*nodes.Parent
	for _, p := range s.parents {
		if p != nil {
			parents = append(parents, p)
		}
	}
	switch n := random.Intn(8); {
	case n == 0:
		s.leaves[i].Enc = s.leaves[j].Enc
	case n == 1:
		s.leaves[i].Sig = s.leaves[j].Sig
	case n == 2 && i != members[len(members)-1]:
		s.leaves[i] = nil
	case n == 3:
		s.leaves[i].Source, s.leaves[i].Hash = nodes.Committed, key(random.Intn(9))
	case len(parents) == 0:
		s.parents[len(s.leaves)-1] = nil
	case n == 4:
		parents[random.Intn(len(parents))].Enc = s.leaves[i].Enc
	case n == 5:
		parents[random.Intn(len(parents))].Hash = nil
	default:
		p := parents[random.Intn(len(parents))]
		if at, found := slices.BinarySearch(p.Unmerged, i); found {
			p.Unmerged = slices.Delete(p.Unmerged, at, at+1)
		} else {
			p.Unmerged = slices.Insert(p.Unmerged, at, i)
		}
	}
}
