package index_test

import (
	"math"
	"slices"
	"testing"

	"synod/api"
	"synod/index"
)

// climbed: the places above s, and the others on that way, in the tree that was drawn.
func climbed(s *spot) (up, beside []int) {
	for ; s.above != nil; s = s.above {
		up = append(up, s.above.x)
		beside = append(beside, s.other.x)
	}
	return up, beside
}

// leavesBelow: the numbers of the leaves at or below s.
func leavesBelow(s *spot) []int {
	if s.left == nil {
		return []int{s.x / 2}
	}
	return append(leavesBelow(s.left), leavesBelow(s.right)...)
}

// lowest: the lowest place above or at both leaves, by looking at all of them.
func lowest(spots map[int]*spot, a, b int) *spot {
	var best *spot
	for _, s := range spots {
		below := leavesBelow(s)
		if slices.Contains(below, a) && slices.Contains(below, b) && (best == nil || s.level < best.level) {
			best = s
		}
	}
	return best
}

// P1202, P1203, P1204: the chapter's examples.
func TestExamples(t *testing.T) {
	if index.Root(4) != 3 {
		t.Error("Root", index.Root(4))
	}
	if p := index.Path(2, 4); !slices.Equal(p, []int{5, 3}) {
		t.Error("Path", p)
	}
	if c := index.Copath(2, 4); !slices.Equal(c, []int{6, 1}) {
		t.Error("Copath", c)
	}
	if x, ok := index.Common(0, 1, 4); x != 1 || !ok {
		t.Error("Common", x, ok)
	}
	if p := index.Place(5); p != 1+1i {
		t.Error("Place", p)
	}
}

// P1203: Path and Copath of every leaf of every tree.
func TestPathAndCopath(t *testing.T) {
	for _, n := range sizes {
		_, spots := drawn(n)
		for leaf := range n {
			up, beside := climbed(spots[2*leaf])
			if p := index.Path(leaf, n); !slices.Equal(p, up) {
				t.Errorf("Path(%d, %d): %v, wanted %v", leaf, n, p, up)
			}
			if c := index.Copath(leaf, n); !slices.Equal(c, beside) {
				t.Errorf("Copath(%d, %d): %v, wanted %v", leaf, n, c, beside)
			}
		}
	}
}

// P1203: no Path and Copath in a tree of one leaf, of leaves that are not there, and in trees that there may not be.
func TestNoPath(t *testing.T) {
	check := func(leaf, leaves int) {
		t.Helper()
		if p, c := index.Path(leaf, leaves), index.Copath(leaf, leaves); len(p) != 0 || len(c) != 0 {
			t.Errorf("leaf %d of %d: %v, %v", leaf, leaves, p, c)
		}
	}
	check(0, 1)
	for _, n := range sizes {
		for _, leaf := range append([]int{n, n + 1, 2*n - 1, 2 * n, 4 * n}, odd...) {
			check(leaf, n)
		}
	}
	for _, n := range noSizes() {
		for _, leaf := range append([]int{0, 1, 2, 63, 64, n - 1, n}, odd...) {
			check(leaf, n)
		}
	}
}

// P1205: both have as many places as the root's level; each of Copath is the Sibling of the one ahead.
func TestLengthsOfWays(t *testing.T) {
	for _, n := range sizes {
		for leaf := range n {
			p, c := index.Path(leaf, n), index.Copath(leaf, n)
			if level := index.Level(index.Root(n)); len(p) != level || len(c) != level {
				t.Fatalf("leaf %d of %d: %v, %v", leaf, n, p, c)
			}
			at := 2 * leaf
			for i := range p {
				sibling, _ := index.Sibling(at, n)
				parent, _ := index.Parent(at, n)
				if c[i] != sibling || p[i] != parent {
					t.Errorf("leaf %d of %d: above %d: %d beside %d", leaf, n, at, p[i], c[i])
				}
				at = p[i]
			}
			if at != index.Root(n) {
				t.Errorf("leaf %d of %d: the way ends at %d", leaf, n, at)
			}
		}
	}
}

// P1203: Common of every two leaves, and of a leaf and itself; P1205: it is on both Paths, or the leaf itself.
func TestCommon(t *testing.T) {
	for _, n := range sizes {
		_, spots := drawn(n)
		for a := range n {
			for b := range n {
				x, ok := index.Common(a, b, n)
				y, okToo := index.Common(b, a, n)
				want := lowest(spots, a, b)
				if !ok || !okToo || x != want.x || y != want.x {
					t.Fatalf("Common(%d, %d, %d): %d, %d, wanted %d", a, b, n, x, y, want.x)
				}
				onBoth := slices.Contains(index.Path(a, n), x) && slices.Contains(index.Path(b, n), x)
				if onBoth != (a != b) || a == b && x != 2*a {
					t.Errorf("Common(%d, %d, %d): %d, on both ways %v", a, b, n, x, onBoth)
				}
			}
		}
	}
}

// P1203: Common of leaves that are not there: the first, the second, both, the same one; and in trees that there may not be.
func TestNoCommon(t *testing.T) {
	check := func(a, b, leaves int) {
		t.Helper()
		if x, ok := index.Common(a, b, leaves); x != -1 || ok {
			t.Errorf("Common(%d, %d, %d): %d, %v", a, b, leaves, x, ok)
		}
	}
	for _, n := range sizes {
		for _, gone := range append([]int{n, n + 1, 2*n - 1, 2 * n}, odd...) {
			check(gone, 0, n)
			check(0, gone, n)
			check(n-1, gone, n)
			check(gone, n-1, n)
			check(gone, gone, n)
			check(gone, n, n)
		}
	}
	for _, n := range noSizes() {
		check(0, 0, n)
		check(0, 1, n)
		check(1, 0, n)
		check(63, 62, n)
		check(n-1, n-1, n)
		check(n, n, n)
	}
}

// P1203: Below of every place and every leaf.
func TestBelow(t *testing.T) {
	_, spots := drawn(api.MaxLeaves)
	for x := range 127 {
		below := leavesBelow(spots[x])
		for leaf := -70; leaf < 300; leaf++ {
			if got := index.Below(x, leaf); got != slices.Contains(below, leaf) {
				t.Errorf("Below(%d, %d): %v", x, leaf, got)
			}
		}
	}
}

// P1203: Below of what is no place, and of leaves that no tree has: also of such whose place is no int, or one of another leaf if it were cut off.
func TestBelowOfNothing(t *testing.T) {
	noLeaves := []int{math.MinInt, math.MinInt + 1, -1 << 62, -64, -2, -1, 64, 65, 126, 127, 128, 1 << 31, 1 << 62, 1<<62 + 1, 1<<62 + 32, math.MaxInt - 1, math.MaxInt}
	for _, x := range odd {
		for leaf := range 64 {
			if index.Below(x, leaf) {
				t.Errorf("Below(%d, %d)", x, leaf)
			}
		}
		for _, leaf := range noLeaves {
			if index.Below(x, leaf) {
				t.Errorf("Below(%d, %d)", x, leaf)
			}
		}
	}
	for x := range 127 {
		for _, leaf := range noLeaves {
			if index.Below(x, leaf) {
				t.Errorf("Below(%d, %d)", x, leaf)
			}
		}
	}
}

// P1201: ways are new memory, with the room behind them, and the same again and again.
func TestWaysAreNew(t *testing.T) {
	spoil := func(way []int) {
		way = way[:cap(way)]
		for i := range way {
			way[i] = -7
		}
	}
	for _, n := range sizes {
		_, spots := drawn(n)
		for leaf := range n {
			up, beside := climbed(spots[2*leaf])
			p1, c1 := index.Path(leaf, n), index.Copath(leaf, n)
			p2, c2 := index.Path(leaf, n), index.Copath(leaf, n)
			spoil(p1)
			spoil(c1)
			if !slices.Equal(p2, up) || !slices.Equal(c2, beside) || !slices.Equal(index.Path(leaf, n), up) || !slices.Equal(index.Copath(leaf, n), beside) {
				t.Fatalf("leaf %d of %d: ways share memory", leaf, n)
			}
		}
	}
}
