package ratchet

import (
	"iter"

	"synod/api"
	"synod/index"
)

// keysOf: of a generation that is kept, or not gone past. Nothing is stored, so that a look changes nothing.
func (r *Ratchets) keysOf(l line, gen int) keys {
	if k, ok := r.kept[message{l, gen}]; ok {
		return k
	}
	at := r.stand(l)
	for at.gen < gen {
		at = at.next()
	}
	return at.keys()
}

// stand: the ratchet as it is; of a leaf that used none, where it begins.
func (r *Ratchets) stand(l line) ratchet {
	if at, ok := r.ratchets[l]; ok {
		return at
	}
	var last seed
	for _, s := range r.down(l.leaf) {
		last = s
	}
	return last.first(l.text)
}

// pass: gen, and all ahead of it. What is gone past is kept; what is more than MaxAhead below is not any more.
func (r *Ratchets) pass(l line, gen int) {
	r.open(l.leaf)
	at := r.ratchets[l]
	old := at.gen - api.MaxAhead
	for at.gen < gen {
		r.kept[message{l, at.gen}] = at.keys()
		at = at.next()
	}
	r.ratchets[l] = at.next()
	for ; old < gen+1-api.MaxAhead; old++ {
		delete(r.kept, message{l, old})
	}
}

// open: both ratchets of the leaf are made. The seeds above it go, which they could be made of again; those beside it stay for the other leaves.
func (r *Ratchets) open(leaf int) {
	if _, ok := r.ratchets[line{leaf, true}]; ok {
		return
	}
	var last seed
	for x, s := range r.down(leaf) {
		delete(r.seeds, x)
		for part, half := range halves(x, s) {
			r.seeds[part] = half
		}
		last = s
	}
	for _, text := range []bool{true, false} {
		r.ratchets[line{leaf, text}] = last.first(text)
	}
}

// down: the way to a leaf without ratchets, from the place whose seed is held: the places with their seeds.
func (r *Ratchets) down(leaf int) iter.Seq2[int, seed] {
	return func(yield func(int, seed) bool) {
		x := r.holder(leaf)
		s, more := r.seeds[x]
		for more && yield(x, s) {
			x, s, more = toward(leaf, x, s)
		}
	}
}

// holder: the lowest place above or at the leaf's whose seed is held.
func (r *Ratchets) holder(leaf int) int {
	x := 2 * leaf
	for _, above := range index.Path(leaf, r.leaves) {
		if _, ok := r.seeds[x]; ok {
			break
		}
		x = above
	}
	return x
}

// toward: the part of x that the leaf is below or at, and its seed; false, if x is the leaf's place.
func toward(leaf, x int, s seed) (int, seed, bool) {
	for part, half := range halves(x, s) {
		if index.Below(part, leaf) {
			return part, half, true
		}
	}
	return 0, seed{}, false
}

// halves: both parts of a place, with their seeds; a leaf's place has none.
func halves(x int, s seed) iter.Seq2[int, seed] {
	return func(yield func(int, seed) bool) {
		left, ok := index.Left(x)
		if !ok {
			return
		}
		right, _ := index.Right(x)
		if yield(left, s.half("left")) {
			yield(right, s.half("right"))
		}
	}
}
