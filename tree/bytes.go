package tree

import (
	"bytes"

	"synod/api"
	"synod/codec"
	"synod/index"
	"synod/nodes"
)

const headSize = 2 // of a place that is not blank: that it is not, and the kind

// Encode, Decode: as bytes.
func (t *Tree) Encode() []byte {
	if !t.made() {
		return nil
	}
	var out, blanks []byte
	for _, n := range t.places() {
		b, _ := codec.Vector(placeBytes(n))
		if n == nil { // told only if something stands behind it
			blanks = append(blanks, b...)
			continue
		}
		out = append(append(out, blanks...), b...)
		blanks = nil
	}
	return out
}

func Decode(b []byte) (*Tree, api.Errno) {
	t, last := New(), -1
	for r := codec.New(b); r.Left() > 0; {
		last++
		if last == index.Width(t.leaves) && !t.widen() {
			return nil, api.ErrForm
		}
		if !t.read(last, r.Vector()) {
			return nil, api.ErrForm
		}
	}
	if t.stands[last] == nil || t.tooWide() {
		return nil, api.ErrForm
	}
	return t, api.OK
}

func placeBytes(n node) []byte {
	if n == nil {
		return []byte{blank}
	}
	return append([]byte{present, n.kind()}, n.bytes()...)
}

// read: what stands at x, if b says it. No bytes (a vector that could not be read has none) say nothing.
func (t *Tree) read(x int, b []byte) bool {
	if bytes.Equal(b, []byte{blank}) {
		return true
	}
	if len(b) < headSize || b[0] != present || b[1] != kindAt(x) {
		return false
	}
	var e api.Errno
	if rest := b[headSize:]; kindAt(x) == leafKind {
		var l nodes.Leaf
		l, e = nodes.GetLeaf(rest)
		t.stands[x] = leaf(l)
	} else {
		var p nodes.Parent
		p, e = nodes.GetParent(rest)
		t.stands[x] = parent(p)
	}
	return e == api.OK
}

// kindAt: the only one that may stand at x.
func kindAt(x int) byte {
	if index.Level(x) == 0 {
		return leafKind
	}
	return parentKind
}
