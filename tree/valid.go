package tree

import (
	"bytes"
	"slices"

	"synod/api"
	"synod/index"
)

// Valid: whether members who do as they should may have made it.
func (t *Tree) Valid() api.Errno {
	switch {
	case !t.made():
		return api.ErrArg
	case !t.unmergedFit():
		return api.ErrTree
	case !t.allHeld():
		return api.ErrHash
	case !t.keysDiffer():
		return api.ErrKey
	}
	return api.OK
}

func (t *Tree) unmergedFit() bool {
	for x, p := range t.parents() {
		for _, i := range p.Unmerged {
			if !t.fitsUnmerged(i, x) {
				return false
			}
		}
	}
	return true
}

// fitsUnmerged: whether leaf i is a member, on whose way up all Parents as far as x, which is one, have it as Unmerged.
func (t *Tree) fitsUnmerged(i, x int) bool {
	if t.stands[placeOf(i)] == nil {
		return false
	}
	for y, p := range t.parentsAbove(i) {
		if !slices.Contains(p.Unmerged, i) {
			return false
		}
		if y == x {
			return true
		}
	}
	return false
}

func (t *Tree) allHeld() bool {
	for x, p := range t.parents() {
		left, _ := index.Left(x)
		right, _ := index.Right(x)
		if !t.held(p, left, right) && !t.held(p, right, left) {
			return false
		}
	}
	return true
}

// held: whether what made p is still to be seen in the part c of its place, s being the other one. The resolution, whose leaves rise as the Unmerged do, is asked ahead of the hash, which takes much longer. Where all Unmerged fit, none of its places is blank.
func (t *Tree) held(p parent, c, s int) bool {
	later := placesBelow(c, p.Unmerged)
	places := t.resolution(c)
	for k, y := range places {
		rest := slices.Concat(places[:k], places[k+1:])
		if slices.Equal(rest, later) && bytes.Equal(t.stands[y].hash(), t.hashBeside(p, s)) {
			return true
		}
	}
	return false
}

// placesBelow: of those of the leaves that are below c.
func placesBelow(c int, list []int) []int {
	var out []int
	for _, i := range list {
		if index.Below(c, i) {
			out = append(out, placeOf(i))
		}
	}
	return out
}

func (t *Tree) keysDiffer() bool {
	var encs, sigs [][]byte
	for _, n := range t.places() {
		if n != nil {
			encs = append(encs, n.enc())
		}
	}
	for _, l := range t.members() {
		sigs = append(sigs, l.Sig)
	}
	return differ(encs) && differ(sigs)
}

// differ: no two are the same.
func differ(list [][]byte) bool {
	seen := map[string]int{}
	for _, b := range list {
		seen[string(b)]++
	}
	return len(seen) == len(list)
}
