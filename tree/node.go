package tree

import (
	"slices"

	"synod/nodes"
)

// node: what stands at a place that is not blank. It may be (chapter 13), or it would not have come there.
type node interface {
	kind() byte    // as bytes tell it
	bytes() []byte // as chapter 13 says
	enc() []byte
	hash() []byte
}

type leaf nodes.Leaf

type parent nodes.Parent

const (
	leafKind   = 1
	parentKind = 2
)

func (l leaf) kind() byte { return leafKind }

func (l leaf) bytes() []byte {
	b, _ := nodes.PutLeaf(nodes.Leaf(l))
	return b
}

func (l leaf) enc() []byte { return l.Enc }

func (l leaf) hash() []byte { return l.Hash }

func (p parent) kind() byte { return parentKind }

func (p parent) bytes() []byte {
	b, _ := nodes.PutParent(nodes.Parent(p))
	return b
}

func (p parent) enc() []byte { return p.Enc }

func (p parent) hash() []byte { return p.Hash }

// leafOf, parentOf: n as what it is; false, if it is the other one, or nothing.
func leafOf(n node) (leaf, bool) {
	switch l := n.(type) {
	case leaf:
		return l, true
	}
	return leaf{}, false
}

func parentOf(n node) (parent, bool) {
	switch p := n.(type) {
	case parent:
		return p, true
	}
	return parent{}, false
}

// ownLeaf, ownParent: with memory of their own, as they are handed in and out.
func ownLeaf(l leaf) nodes.Leaf {
	return nodes.Leaf{
		Enc:       slices.Clone(l.Enc),
		Sig:       slices.Clone(l.Sig),
		Name:      slices.Clone(l.Name),
		Source:    l.Source,
		Hash:      slices.Clone(l.Hash),
		Signature: slices.Clone(l.Signature),
	}
}

func ownParent(p parent) nodes.Parent {
	return nodes.Parent{
		Enc:      slices.Clone(p.Enc),
		Hash:     slices.Clone(p.Hash),
		Unmerged: slices.Clone(p.Unmerged),
	}
}
