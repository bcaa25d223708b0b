package tree_test

import (
	"bytes"
	"crypto/sha256"
	"encoding/binary"
	"slices"

	"synod/api"
	"synod/nodes"
)

// slow: a tree by the chapter's words one by one: what stands where, nil where it is blank. It shares no code with the package, nor with the layers below it.
type slow struct {
	leaves  []*nodes.Leaf   // by numbers
	parents []*nodes.Parent // by places, of which the even ones stay nil
}

func slowNew() *slow { return &slow{make([]*nodes.Leaf, 1), make([]*nodes.Parent, 1)} }

func (s *slow) copy() *slow {
	out := &slow{make([]*nodes.Leaf, len(s.leaves)), make([]*nodes.Parent, len(s.parents))}
	for i, l := range s.leaves {
		if l != nil {
			one := ownLeaf(*l)
			out.leaves[i] = &one
		}
	}
	for x, p := range s.parents {
		if p != nil {
			out.parents[x] = &nodes.Parent{Enc: bytes.Clone(p.Enc), Hash: bytes.Clone(p.Hash), Unmerged: slices.Clone(p.Unmerged)}
		}
	}
	return out
}

func ownLeaf(l nodes.Leaf) nodes.Leaf {
	return nodes.Leaf{Enc: bytes.Clone(l.Enc), Sig: bytes.Clone(l.Sig), Name: bytes.Clone(l.Name), Source: l.Source, Hash: bytes.Clone(l.Hash), Signature: bytes.Clone(l.Signature)}
}

// span: the first and the last place at or below x.
func (s *slow) span(x int) (first, last int) {
	last = len(s.parents) - 1
	for x != (first+last)/2 {
		if middle := (first + last) / 2; x < middle {
			last = middle - 1
		} else {
			first = middle + 1
		}
	}
	return first, last
}

// parts: of a place that has some.
func (s *slow) parts(x int) (left, right int) {
	first, last := s.span(x)
	return (first + x - 1) / 2, (x + 1 + last) / 2
}

// under: whether leaf i is at or below x.
func (s *slow) under(x, i int) bool {
	first, last := s.span(x)
	return 2*i >= first && 2*i <= last
}

// way: the places above leaf i, the lowest first.
func (s *slow) way(i int) []int {
	var out []int
	for size := 2; size <= len(s.leaves); size *= 2 {
		for x := range s.parents {
			if first, last := s.span(x); last-first == 2*size-2 && s.under(x, i) {
				out = append(out, x)
			}
		}
	}
	return out
}

// other: the part of x that leaf i is not at or below.
func (s *slow) other(x, i int) int {
	left, right := s.parts(x)
	if s.under(left, i) {
		return right
	}
	return left
}

func (s *slow) members() []int {
	var out []int
	for i, l := range s.leaves {
		if l != nil {
			out = append(out, i)
		}
	}
	return out
}

func (s *slow) resolution(x int) []int {
	if x%2 == 0 {
		if s.leaves[x/2] == nil {
			return nil
		}
		return []int{x}
	}
	if p := s.parents[x]; p != nil {
		out := []int{x}
		for _, i := range p.Unmerged {
			out = append(out, 2*i)
		}
		return out
	}
	left, right := s.parts(x)
	return slices.Concat(s.resolution(left), s.resolution(right))
}

func (s *slow) filtered(i int) []int {
	var out []int
	for _, x := range s.way(i) {
		if len(s.resolution(s.other(x, i))) != 0 {
			out = append(out, x)
		}
	}
	return out
}

// slowVector, slowLeaf, slowParent: chapters 11 and 13.
func slowVector(b []byte) []byte {
	if len(b) < 64 {
		return append([]byte{byte(len(b))}, b...)
	}
	return append(binary.BigEndian.AppendUint16(nil, 0x4000|uint16(len(b))), b...)
}

func slowLeaf(l nodes.Leaf) []byte {
	b := slices.Concat(slowVector(l.Enc), slowVector(l.Sig), slowVector(l.Name), []byte{byte(l.Source)})
	if l.Source == nodes.Committed {
		b = append(b, slowVector(l.Hash)...)
	}
	return append(b, slowVector(l.Signature)...)
}

func slowParent(p nodes.Parent) []byte {
	var list []byte
	for _, i := range p.Unmerged {
		list = binary.BigEndian.AppendUint32(list, uint32(i))
	}
	return slices.Concat(slowVector(p.Enc), slowVector(p.Hash), slowVector(list))
}

func sum(parts ...[]byte) []byte {
	h := sha256.Sum256(slices.Concat(parts...))
	return h[:]
}

func (s *slow) hashAt(x int) []byte {
	if x%2 == 0 {
		head := binary.BigEndian.AppendUint32([]byte{1}, uint32(x/2))
		if l := s.leaves[x/2]; l != nil {
			return sum(head, []byte{1}, slowLeaf(*l))
		}
		return sum(head, []byte{0})
	}
	left, right := s.parts(x)
	below := append(slowVector(s.hashAt(left)), slowVector(s.hashAt(right))...)
	if p := s.parents[x]; p != nil {
		return sum([]byte{2, 1}, slowParent(*p), below)
	}
	return sum([]byte{2, 0}, below)
}

// hashBeside: of the Parent at x, beside its part o.
func (s *slow) hashBeside(x, o int) []byte {
	p := s.parents[x]
	bare := s.copy()
	for _, i := range p.Unmerged {
		if i < len(bare.leaves) {
			bare.leaves[i] = nil
		}
	}
	for _, q := range bare.parents {
		if q != nil {
			q.Unmerged = slices.DeleteFunc(q.Unmerged, func(i int) bool { return slices.Contains(p.Unmerged, i) })
		}
	}
	return sum(slowVector(p.Enc), slowVector(p.Hash), slowVector(bare.hashAt(o)))
}

// slowAllowed: a leaf that may be.
func slowAllowed(l nodes.Leaf) bool {
	hash := len(l.Hash) == 0 || len(l.Hash) == 32 && l.Source == nodes.Committed
	return len(l.Enc) == 32 && len(l.Sig) == 32 && len(l.Name) >= 1 && len(l.Name) <= api.MaxName && l.Source >= 1 && l.Source <= 3 && hash && len(l.Signature) == 64
}

func (s *slow) put(i int, l nodes.Leaf) {
	own := ownLeaf(l)
	s.leaves[i] = &own
}

func (s *slow) add(l nodes.Leaf) (int, api.Errno) {
	if !slowAllowed(l) {
		return 0, api.ErrArg
	}
	i := slices.Index(s.leaves, nil)
	if i < 0 && len(s.leaves) == api.MaxLeaves {
		return 0, api.ErrFull
	}
	if i < 0 {
		i = len(s.leaves)
		s.leaves = append(s.leaves, make([]*nodes.Leaf, i)...)
		s.parents = append(s.parents, make([]*nodes.Parent, 2*i)...)
	}
	s.put(i, l)
	for _, x := range s.way(i) {
		if p := s.parents[x]; p != nil && !slices.Contains(p.Unmerged, i) {
			p.Unmerged = append(p.Unmerged, i)
			slices.Sort(p.Unmerged)
		}
	}
	return i, api.OK
}

func (s *slow) set(i int, l nodes.Leaf) api.Errno {
	if !slowAllowed(l) || i < 0 || i >= len(s.leaves) {
		return api.ErrArg
	}
	if s.leaves[i] == nil {
		return api.ErrNone
	}
	s.put(i, l)
	for _, x := range s.way(i) {
		s.parents[x] = nil
	}
	return api.OK
}

func (s *slow) remove(i int) api.Errno {
	if i < 0 || i >= len(s.leaves) {
		return api.ErrArg
	}
	if s.leaves[i] == nil {
		return api.ErrNone
	}
	s.leaves[i] = nil
	for _, x := range s.way(i) {
		s.parents[x] = nil
	}
	for len(s.leaves) > 1 && !slices.ContainsFunc(s.leaves[len(s.leaves)/2:], func(l *nodes.Leaf) bool { return l != nil }) {
		s.leaves = s.leaves[:len(s.leaves)/2]
		s.parents = s.parents[:2*len(s.leaves)-1]
	}
	return api.OK
}

func (s *slow) putLeaf(i int, l nodes.Leaf) api.Errno {
	if !slowAllowed(l) || i < 0 || i >= len(s.leaves) {
		return api.ErrArg
	}
	s.put(i, l)
	return api.OK
}

func (s *slow) setPath(i int, keys [][]byte) ([]byte, api.Errno) {
	if i < 0 || i >= len(s.leaves) {
		return nil, api.ErrArg
	}
	path := s.filtered(i)
	if len(keys) != len(path) || slices.ContainsFunc(keys, func(k []byte) bool { return len(k) != 32 }) {
		return nil, api.ErrArg
	}
	for _, x := range s.way(i) {
		s.parents[x] = nil
	}
	for k, x := range path {
		s.parents[x] = &nodes.Parent{Enc: bytes.Clone(keys[k])}
	}
	for k := len(path) - 2; k >= 0; k-- {
		above := path[k+1]
		s.parents[path[k]].Hash = s.hashBeside(above, s.other(above, i))
	}
	if len(path) == 0 {
		return nil, api.OK
	}
	return s.hashBeside(path[0], s.other(path[0], i)), api.OK
}

func (s *slow) valid() api.Errno {
	for x, p := range s.parents {
		if p == nil {
			continue
		}
		for _, i := range p.Unmerged {
			if i >= len(s.leaves) || s.leaves[i] == nil || !s.under(x, i) {
				return api.ErrTree
			}
			for _, y := range s.way(i) {
				if first, last := s.span(x); y == x || y < first || y > last {
					continue
				}
				if q := s.parents[y]; q != nil && !slices.Contains(q.Unmerged, i) {
					return api.ErrTree
				}
			}
		}
	}
	for x, p := range s.parents {
		if p == nil {
			continue
		}
		if left, right := s.parts(x); !s.held(x, left, right) && !s.held(x, right, left) {
			return api.ErrHash
		}
	}
	return s.validKeys()
}

// held: the Parent at x, by its part c, o being the other one.
func (s *slow) held(x, c, o int) bool {
	p := s.parents[x]
	resolution := s.resolution(c)
	for _, y := range resolution {
		var hash []byte
		if y%2 == 1 {
			hash = s.parents[y].Hash
		} else {
			hash = s.leaves[y/2].Hash
		}
		same := bytes.Equal(hash, s.hashBeside(x, o))
		for z := range s.parents {
			rest := z != y && slices.Contains(resolution, z)
			later := z%2 == 0 && slices.Contains(p.Unmerged, z/2) && s.under(c, z/2)
			same = same && rest == later
		}
		if same {
			return true
		}
	}
	return false
}

func (s *slow) validKeys() api.Errno {
	var encs, sigs [][]byte
	for _, l := range s.leaves {
		if l != nil {
			encs, sigs = append(encs, l.Enc), append(sigs, l.Sig)
		}
	}
	for _, p := range s.parents {
		if p != nil {
			encs = append(encs, p.Enc)
		}
	}
	for _, list := range [][][]byte{encs, sigs} {
		for a := range list {
			for b := range a {
				if bytes.Equal(list[a], list[b]) {
					return api.ErrKey
				}
			}
		}
	}
	return api.OK
}

// place: the bytes of what is at x, not as a vector yet.
func (s *slow) place(x int) []byte {
	if x%2 == 0 && s.leaves[x/2] != nil {
		return append([]byte{1, 1}, slowLeaf(*s.leaves[x/2])...)
	}
	if x%2 == 1 && s.parents[x] != nil {
		return append([]byte{1, 2}, slowParent(*s.parents[x])...)
	}
	return []byte{0}
}

// list: the bytes of each place, up to the last one that is not blank.
func (s *slow) list() [][]byte {
	var out [][]byte
	for x := range s.parents {
		out = append(out, s.place(x))
	}
	for len(out) > 0 && len(out[len(out)-1]) == 1 {
		out = out[:len(out)-1]
	}
	return out
}

// joined: each as a vector.
func joined(list [][]byte) []byte {
	var out []byte
	for _, b := range list {
		out = append(out, slowVector(b)...)
	}
	return out
}

func (s *slow) encode() []byte { return joined(s.list()) }
