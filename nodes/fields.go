package nodes

import (
	"slices"

	"synod/api"
	"synod/codec"
)

// field: one of a node, by the functions of its kind. Both ways go by one allowed, so that no bytes are read that would not be written.
type field struct {
	allowed func() bool           // what it holds may be
	put     func() []byte         // what it holds, as bytes
	get     func(r *codec.Reader) // what is read next is held
}

// put: all fields' bytes one behind the other; ErrArg, if one of them may not be.
func put(fields []field) (out []byte, e api.Errno) {
	defer func() {
		if recover() != nil {
			out, e = nil, api.ErrArg
		}
	}()
	for _, f := range fields {
		must(f.allowed())
		out = append(out, f.put()...)
	}
	return out, api.OK
}

// get: the node whose fields, one behind the other, are just b; ErrForm, if there is none that may be.
func get[T any](b []byte, fieldsOf func(*T) []field) (node T, e api.Errno) {
	defer func() {
		if recover() != nil {
			var none T
			node, e = none, api.ErrForm
		}
	}()
	r := codec.New(b)
	for _, f := range fieldsOf(&node) {
		f.get(r)
		must(f.allowed())
	}
	must(r.End() == api.OK) // which tells the first error, wherever it was
	return node, api.OK
}

// must: else the work gives up, however deep it is in a node: put and get know the error that this means.
func must(yes bool) {
	if !yes {
		panic("a node that may not be")
	}
}

// sure: what codec wrote, if it did.
func sure(b []byte, e api.Errno) []byte {
	must(e == api.OK)
	return b
}

// vector: of at least and at most so many bytes. None are held as nil, as in a node that was never filled.
func vector(b *[]byte, least, most int) field {
	return field{
		allowed: func() bool { return len(*b) >= least && len(*b) <= most },
		put:     func() []byte { return sure(codec.Vector(*b)) },
		get: func(r *codec.Reader) {
			*b = nil
			if v := r.Vector(); len(v) != 0 {
				*b = v
			}
		},
	}
}

// hashOrNone: a vector of a hash, or of nothing.
func hashOrNone(b *[]byte) field {
	f := vector(b, 0, hashSize)
	f.allowed = func() bool { return len(*b) == 0 || len(*b) == hashSize }
	return f
}

// leafHash: only a Committed leaf has one. The Source is asked as late as it may be: where a leaf is read it is not known ahead.
func leafHash(l *Leaf) field {
	hash, none := hashOrNone(&l.Hash), unwritten(vector(&l.Hash, 0, 0))
	kind := func() field {
		if l.Source == Committed {
			return hash
		}
		return none
	}
	return field{
		allowed: func() bool { return kind().allowed() },
		put:     func() []byte { return kind().put() },
		get:     func(r *codec.Reader) { kind().get(r) },
	}
}

// number: from least to most, in so many bytes.
func number(n *int, size, least, most int) field {
	return field{
		allowed: func() bool { return *n >= least && *n <= most },
		put:     func() []byte { return sure(codec.Number(*n, size)) },
		get:     func(r *codec.Reader) { *n = r.Number(size) },
	}
}

// leafNumbers: a vector of rising ones.
func leafNumbers(list *[]int) field {
	return field{
		allowed: func() bool { return rising(*list) },
		put: func() []byte {
			var b []byte
			for _, n := range *list {
				b = append(b, sure(codec.Number(n, leafBytes))...)
			}
			return sure(codec.Vector(b))
		},
		get: func(r *codec.Reader) { *list = numbersIn(r.Vector()) },
	}
}

// rising: leaves' numbers, each above the one ahead of it.
func rising(list []int) bool {
	last := -1
	for _, n := range list {
		if n <= last || n >= api.MaxLeaves {
			return false
		}
		last = n
	}
	return true
}

// numbersIn: all of b, which must come out even.
func numbersIn(b []byte) []int {
	var out []int
	for r := codec.New(b); r.Left() > 0; {
		out = append(out, r.Number(leafBytes))
		must(r.Err() == api.OK)
	}
	return out
}

// unwritten: must still be allowed, but has no bytes.
func unwritten(f field) field {
	return field{
		allowed: f.allowed,
		put:     func() []byte { return nil },
		get:     func(*codec.Reader) {},
	}
}

// unsigned: without the bytes of the last field, the Signature.
func unsigned(fields []field) []field {
	last := len(fields) - 1
	return append(slices.Clone(fields[:last]), unwritten(fields[last]))
}
