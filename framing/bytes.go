package framing

import (
	"bytes"

	"synod/codec"
	"synod/hkdf"
)

const (
	version     = 1 // of the protocol
	versionSize = 2 // bytes
	wireSize    = 2
	epochSize   = 8
	fromSize    = 1
	kindSize    = 1
	leafSize    = 4
)

// joined: parts, one behind the other.
func joined(parts ...[]byte) []byte {
	var out []byte
	for _, b := range parts {
		out = append(out, b...)
	}
	return out
}

// number, vector: as codec writes them. What is written here was asked for its size ahead, so that codec refuses none.
func number(n, size int) []byte {
	b, _ := codec.Number(n, size)
	return b
}

func vector(b []byte) []byte {
	v, _ := codec.Vector(b)
	return v
}

// list: the vector that is read next. None is nil, as in a message that was never filled.
func list(r *codec.Reader) []byte {
	if b := r.Vector(); len(b) > 0 {
		return b
	}
	return nil
}

// onlyZeros: all that is left is padding; it is read.
func onlyZeros(r *codec.Reader) bool {
	for _, b := range r.Take(r.Left()) {
		if b != 0 {
			return false
		}
	}
	return true
}

// frame: what every message begins with.
func frame(wire int) []byte {
	return joined(number(version, versionSize), number(wire, wireSize))
}

func framed(r *codec.Reader, wire int) bool {
	return r.Number(versionSize) == version && r.Number(wireSize) == wire
}

func (c Content) bytes() []byte {
	var leaf []byte
	if c.From == Member {
		leaf = number(c.Leaf, leafSize)
	}
	from := joined(number(c.From, fromSize), leaf)
	return joined(vector(c.Group), number(c.Epoch, epochSize), from, vector(c.More), number(c.Kind, kindSize), vector(c.Body))
}

// contentAt: what is read next. The Reader tells, if it ended early; whether it may be is still to be asked.
func contentAt(r *codec.Reader) Content {
	var c Content
	c.Group = list(r)
	c.Epoch = r.Number(epochSize)
	c.From = r.Number(fromSize)
	if c.From == Member {
		c.Leaf = r.Number(leafSize)
	}
	c.More = list(r)
	c.Kind = r.Number(kindSize)
	c.Body = list(r)
	return c
}

// text: what is signed.
func (s Signed) text(context []byte) []byte {
	return joined(frame(s.Wire), s.Content.bytes(), context)
}

// tag: of what is signed and of its ending, so that the signature too is a member's.
func (s Signed) tag(member, context []byte) []byte {
	return hkdf.Hmac(member, joined(s.text(context), s.ending()))
}

// ending: what stands behind a content that is signed.
func (s Signed) ending() []byte {
	var confirm []byte
	if s.Content.Kind == Commit {
		confirm = vector(s.Confirm)
	}
	return joined(vector(s.Signature), confirm)
}

// takeEnding: as it is read next, of the content that s has already.
func (s *Signed) takeEnding(r *codec.Reader) {
	s.Signature = list(r)
	if s.Content.Kind == Commit {
		s.Confirm = list(r)
	}
}

// clone: what is handed out shares no memory with what was handed in.
func (s Signed) clone() Signed {
	for _, b := range []*[]byte{&s.Content.Group, &s.Content.More, &s.Content.Body, &s.Signature, &s.Confirm} {
		*b = bytes.Clone(*b)
	}
	return s
}

func (h head) bytes() []byte { return joined(h.start(), vector(h.more)) }

// start: the head without More.
func (h head) start() []byte {
	return joined(vector(h.group), number(h.epoch, epochSize), number(h.kind, kindSize))
}

// sealedAt: as contentAt.
func sealedAt(r *codec.Reader) Sealed {
	var x Sealed
	x.Group = list(r)
	x.Epoch = r.Number(epochSize)
	x.Kind = r.Number(kindSize)
	x.More, x.Sender, x.Body = list(r), list(r), list(r)
	return x
}

// from: what x says openly, of that leaf; the rest is still to be opened.
func (x Sealed) from(leaf int) Signed {
	return Signed{Wire: Private, Content: Content{
		Group: x.Group,
		Epoch: x.Epoch,
		From:  Member,
		Leaf:  leaf,
		More:  x.More,
		Kind:  x.Kind,
	}}
}
