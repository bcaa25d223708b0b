package tree

import (
	"iter"

	"synod/index"
)

// places: all of them, from left to right, with what stands there (nothing, where it is blank).
func (t *Tree) places() iter.Seq2[int, node] {
	return func(yield func(int, node) bool) {
		for x := range index.Width(t.leaves) {
			if !yield(x, t.stands[x]) {
				return
			}
		}
	}
}

// members: the leaves that are not blank, by their numbers.
func (t *Tree) members() iter.Seq2[int, leaf] {
	return func(yield func(int, leaf) bool) {
		for x, n := range t.places() {
			if l, ok := leafOf(n); ok && !yield(x/2, l) {
				return
			}
		}
	}
}

// parents: by their places.
func (t *Tree) parents() iter.Seq2[int, parent] {
	return func(yield func(int, parent) bool) {
		for x, n := range t.places() {
			if p, ok := parentOf(n); ok && !yield(x, p) {
				return
			}
		}
	}
}

// parentsAbove: those on leaf i's way to the root.
func (t *Tree) parentsAbove(i int) iter.Seq2[int, parent] {
	return func(yield func(int, parent) bool) {
		for _, x := range index.Path(i, t.leaves) {
			if p, ok := parentOf(t.stands[x]); ok && !yield(x, p) {
				return
			}
		}
	}
}

// filtered: the places of leaf i's filtered path, each with its part that is not above i.
func (t *Tree) filtered(i int) iter.Seq2[int, int] {
	return func(yield func(int, int) bool) {
		beside := index.Copath(i, t.leaves)
		for k, x := range index.Path(i, t.leaves) {
			if len(t.resolution(beside[k])) != 0 && !yield(x, beside[k]) {
				return
			}
		}
	}
}

// Filtered, Resolution: places that a path is made for, and those that stand for all that is below a place.
func (t *Tree) Filtered(i int) []int {
	if !t.hasLeaf(i) {
		return nil
	}
	var out []int
	for x := range t.filtered(i) {
		out = append(out, x)
	}
	return out
}

func (t *Tree) Resolution(x int) []int {
	if !t.hasPlace(x) {
		return nil
	}
	return t.resolution(x)
}

func (t *Tree) resolution(x int) []int {
	switch n := t.stands[x].(type) {
	case leaf:
		return []int{x}
	case parent:
		out := []int{x}
		for _, i := range n.Unmerged {
			out = append(out, placeOf(i))
		}
		return out
	}
	left, ok := index.Left(x)
	if !ok {
		return nil
	}
	right, _ := index.Right(x)
	return append(t.resolution(left), t.resolution(right)...)
}
