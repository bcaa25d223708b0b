package index

import "synod/api"

// Path, Copath, Common, Below: of leaves.
func Path(leaf, leaves int) []int {
	if !hasLeaf(leaf, leaves) {
		return nil
	}
	var way []int
	p, top := Place(2*leaf), Place(Root(leaves))
up:
	if p == top {
		return way
	}
	p = above(p)
	way = append(way, At(p))
	goto up
}

func Copath(leaf, leaves int) []int {
	if !hasLeaf(leaf, leaves) {
		return nil
	}
	var way []int
	p, top := Place(2*leaf), Place(Root(leaves))
up:
	if p == top {
		return way
	}
	way = append(way, At(beside(p)))
	p = above(p)
	goto up
}

func Common(a, b, leaves int) (int, bool) {
	if !hasLeaf(a, leaves) || !hasLeaf(b, leaves) {
		return none, false
	}
	p, q := Place(2*a), Place(2*b)
up:
	if p == q {
		return At(p), true
	}
	p, q = above(p), above(q)
	goto up
}

func Below(x, leaf int) bool {
	if !hasLeaf(leaf, api.MaxLeaves) {
		return false
	}
	// where there is no place x, its level is below every leaf's
	p, top := Place(2*leaf), Place(x)
up:
	if real(p) >= real(top) {
		return p == top
	}
	p = above(p)
	goto up
}

// hasLeaf: whether there may be a tree of so many leaves, with this one.
func hasLeaf(leaf, leaves int) bool {
	return allowed(leaves) && leaf >= 0 && leaf < leaves
}
