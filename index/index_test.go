package index_test

import (
	"math"
	"slices"
	"testing"

	"synod/api"
	"synod/index"
)

// spot: a place of a tree that is drawn whole, and what is beside it.
type spot struct {
	x, level, column          int
	left, right, above, other *spot
}

// draw: the tree of the places from first to last, the root between its two parts, into spots.
func draw(first, last, column int, spots map[int]*spot) *spot {
	s := &spot{x: (first + last) / 2, column: column}
	spots[s.x] = s
	if first == last {
		return s
	}
	s.left = draw(first, s.x-1, 2*column, spots)
	s.right = draw(s.x+1, last, 2*column+1, spots)
	s.level = s.left.level + 1
	s.left.above, s.right.above = s, s
	s.left.other, s.right.other = s.right, s.left
	return s
}

// drawn: the tree of so many leaves, by places.
func drawn(leaves int) (*spot, map[int]*spot) {
	spots := map[int]*spot{}
	root := draw(0, 2*leaves-2, 0, spots)
	return root, spots
}

// sizes: how many leaves a tree may have.
var sizes = []int{1, 2, 4, 8, 16, 32, 64}

// noSizes: how many it may not have, written out and all the others up to 200.
func noSizes() []int {
	no := []int{math.MinInt, math.MinInt + 1, math.MinInt / 2, -128, -64, -2, -1, 0, 3, api.MaxLeaves + 1, 2 * api.MaxLeaves, 1 << 32, 1 << 62, math.MaxInt/2 + 1, math.MaxInt}
	for n := range 200 {
		if !slices.Contains(sizes, n) {
			no = append(no, n)
		}
	}
	return no
}

// odd: numbers that are no place of any tree, and no leaf.
var odd = []int{math.MinInt, math.MinInt + 1, -1 << 62, -128, -127, -64, -3, -2, -1, 127, 128, 129, 190, 191, 255, 256, 1 << 31, 1<<32 + 5, 1<<62 - 1, 1 << 62, 1<<62 + 1, 1<<62 + 64, math.MaxInt - 1, math.MaxInt}

// checkBeside: an answer of Left, Right, Parent or Sibling.
func checkBeside(t *testing.T, name string, x, leaves, got int, ok bool, want *spot) {
	t.Helper()
	if want == nil && (got != -1 || ok) {
		t.Errorf("%s of %d, %d leaves: %d, %v, wanted none", name, x, leaves, got, ok)
	}
	if want != nil && (got != want.x || !ok) {
		t.Errorf("%s of %d, %d leaves: %d, %v, wanted %d", name, x, leaves, got, ok, want.x)
	}
}

// P1202: Width and Root of all trees that there may be, and of others.
func TestWidthAndRoot(t *testing.T) {
	for _, n := range sizes {
		root, spots := drawn(n)
		if index.Width(n) != len(spots) || index.Width(n) != 2*n-1 {
			t.Errorf("Width(%d): %d", n, index.Width(n))
		}
		if index.Root(n) != root.x || index.Root(n) != n-1 {
			t.Errorf("Root(%d): %d", n, index.Root(n))
		}
	}
	for _, n := range noSizes() {
		if index.Width(n) != -1 || index.Root(n) != -1 {
			t.Errorf("%d leaves: Width %d, Root %d", n, index.Width(n), index.Root(n))
		}
	}
}

// P1202: Level of every place.
func TestLevel(t *testing.T) {
	for _, n := range sizes {
		_, spots := drawn(n)
		for x, s := range spots {
			if index.Level(x) != s.level {
				t.Errorf("Level(%d): %d, wanted %d", x, index.Level(x), s.level)
			}
		}
	}
}

// P1202: Level below 0, and of numbers past every tree: how many lowest bits are 1.
func TestLevelElsewhere(t *testing.T) {
	for _, x := range []int{-1, -2, -3, -127, math.MinInt, math.MinInt + 1} {
		if index.Level(x) != -1 {
			t.Errorf("Level(%d): %d", x, index.Level(x))
		}
	}
	for x, want := range map[int]int{127: 7, 128: 0, 129: 1, 191: 6, 255: 8, 1 << 40: 0, 1<<40 - 1: 40, 1<<62 - 1: 62, 1<<62 + 3: 2, math.MaxInt - 1: 0, math.MaxInt: 63} {
		if index.Level(x) != want {
			t.Errorf("Level(%d): %d, wanted %d", x, index.Level(x), want)
		}
	}
}

// P1202: Left and Right of every place, of leaves, and of what is no place.
func TestLeftAndRight(t *testing.T) {
	_, spots := drawn(api.MaxLeaves)
	for x := range 127 {
		got, ok := index.Left(x)
		checkBeside(t, "Left", x, 64, got, ok, spots[x].left)
		got, ok = index.Right(x)
		checkBeside(t, "Right", x, 64, got, ok, spots[x].right)
		if _, ok := index.Left(x); ok != (x%2 == 1) {
			t.Errorf("Left(%d): %v", x, ok)
		}
	}
	for _, x := range odd {
		got, ok := index.Left(x)
		checkBeside(t, "Left", x, 64, got, ok, nil)
		got, ok = index.Right(x)
		checkBeside(t, "Right", x, 64, got, ok, nil)
	}
}

// P1202: Parent and Sibling of every place in every tree, of roots, and of places that a tree does not have.
func TestParentAndSibling(t *testing.T) {
	for _, n := range sizes {
		root, spots := drawn(n)
		for x := -200; x < 400; x++ {
			s := spots[x]
			if s == nil {
				s = &spot{}
			}
			got, ok := index.Parent(x, n)
			checkBeside(t, "Parent", x, n, got, ok, s.above)
			got, ok = index.Sibling(x, n)
			checkBeside(t, "Sibling", x, n, got, ok, s.other)
		}
		for _, x := range append([]int{root.x}, odd...) {
			got, ok := index.Parent(x, n)
			checkBeside(t, "Parent", x, n, got, ok, nil)
			got, ok = index.Sibling(x, n)
			checkBeside(t, "Sibling", x, n, got, ok, nil)
		}
	}
}

// P1202: Parent and Sibling in trees that there may not be.
func TestParentAndSiblingInNoTree(t *testing.T) {
	for _, n := range noSizes() {
		for _, x := range append([]int{0, 1, 2, 3, 5, 64, 65, 126}, odd...) {
			got, ok := index.Parent(x, n)
			checkBeside(t, "Parent", x, n, got, ok, nil)
			got, ok = index.Sibling(x, n)
			checkBeside(t, "Sibling", x, n, got, ok, nil)
		}
	}
}

// P1205: Left and Right of a Parent are the place and its Sibling.
func TestPartsOfParents(t *testing.T) {
	for _, n := range sizes {
		for x := range index.Width(n) {
			parent, ok := index.Parent(x, n)
			sibling, okToo := index.Sibling(x, n)
			if ok != okToo || ok != (x != index.Root(n)) {
				t.Fatalf("%d of %d leaves: %v, %v", x, n, ok, okToo)
			}
			if !ok {
				continue
			}
			left, okLeft := index.Left(parent)
			right, okRight := index.Right(parent)
			if !okLeft || !okRight || left != min(x, sibling) || right != max(x, sibling) || x == sibling {
				t.Errorf("%d of %d leaves: Parent %d, Sibling %d, Left %d, Right %d", x, n, parent, sibling, left, right)
			}
		}
	}
}
