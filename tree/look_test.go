package tree_test

import (
	"math/rand"
	"slices"
	"testing"

	"synod/api"
	"synod/tree"
)

// The chapter's examples.
func TestExamples(t *testing.T) {
	x := tree.New()
	x.Add(leaf(1))
	x.Add(leaf(2))
	if x.Leaves() != 2 || !slices.Equal(x.Members(), []int{0, 1}) || !slices.Equal(x.Resolution(1), []int{0, 2}) {
		t.Errorf("%d leaves, members %v, resolution %v", x.Leaves(), x.Members(), x.Resolution(1))
	}
	if _, e := x.SetPath(0, [][]byte{key(9)}); e != api.OK || !slices.Equal(x.Resolution(1), []int{1}) {
		t.Errorf("error %d, resolution %v", e, x.Resolution(1))
	}
}

// P1402: one leaf, blank.
func TestNew(t *testing.T) {
	p := newPair(t)
	if p.x == nil || p.x.Leaves() != 1 || len(p.x.Members()) != 0 || len(p.x.Resolution(0)) != 0 || len(p.x.Filtered(0)) != 0 || len(p.x.Encode()) != 0 || p.x.Valid() != api.OK {
		t.Errorf("%v", p.x)
	}
	if _, ok := p.x.Leaf(0); ok {
		t.Error("a leaf that is blank")
	}
	p.check()
	if tree.New() == tree.New() {
		t.Error("two that are one")
	}
}

// P1402: trees without Parents, of each number of members.
func TestLooksWithoutParents(t *testing.T) {
	p := newPair(t)
	p.check()
	for range api.MaxLeaves {
		p.join()
		p.check()
	}
}

// P1402: trees that have seen members come and go.
func TestLooksOfGrown(t *testing.T) {
	for _, p := range grown(t, 1, 40) {
		p.check()
	}
}

// P1402, P1403, P1404: trees that only bytes can tell, and what changes make of them.
func TestLooksOfStrange(t *testing.T) {
	random := rand.New(rand.NewSource(2))
	for range 300 {
		p := read(t, strange(random))
		for range 4 {
			i := random.Intn(len(p.s.leaves))
			switch random.Intn(5) {
			case 0:
				p.join()
			case 1:
				p.update(i)
			case 2:
				p.remove(i)
			case 3:
				p.putLeaf(i, leaf(p.number()))
			case 4:
				p.setPath(i, p.keys(len(p.s.filtered(i))))
			}
			p.check()
		}
	}
}

// Filtered and Resolution, written out: a blank leaf, a blank place, and Unmerged leaves.
func TestWaysWrittenOut(t *testing.T) {
	p := filled(t, 8)
	p.commit(0) // 1 3 7
	p.commit(6) // 13 11 7
	p.remove(1) // 1 3 7 are blank
	p.remove(3) // 5 is, too
	p.commit(2) // 3 7
	p.join()    // leaf 1, Unmerged at 3 and 7
	p.check()
	for x, want := range map[int][]int{0: {0}, 2: {2}, 6: {}, 1: {0, 2}, 5: {4}, 3: {3, 2}, 7: {7, 2}, 11: {11}, 13: {13}, 9: {8, 10}} {
		if got := p.x.Resolution(x); !slices.Equal(got, want) {
			t.Errorf("Resolution(%d): %v, not %v", x, got, want)
		}
	}
	for i, want := range map[int][]int{0: {1, 3, 7}, 1: {1, 3, 7}, 2: {3, 7}, 3: {5, 3, 7}, 4: {9, 11, 7}, 7: {13, 11, 7}} {
		if got := p.x.Filtered(i); !slices.Equal(got, want) {
			t.Errorf("Filtered(%d): %v, not %v", i, got, want)
		}
	}
}
