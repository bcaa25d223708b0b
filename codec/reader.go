package codec

import (
	"slices"

	"synod/api"
)

// Reader: of bytes, on till the first error.
type Reader struct {
	rest []byte    // what is not read
	err  api.Errno // the first one
	made bool      // by New
}

// New: at the beginning of b, which stays the caller's.
func New(b []byte) *Reader { return &Reader{rest: slices.Clone(b), made: true} }

// Number: of that many bytes. ErrArg of another size than 1, 2, 4 and 8; ErrEnd; ErrRange of 2^62 or more.
func (r *Reader) Number(size int) int {
	var n uint64
	var e api.Errno
	if !r.reads() {
		return 0
	}
	if !isSize(size) {
		e = api.ErrArg
		goto fault
	}
	if len(r.rest) < size {
		e = api.ErrEnd
		goto fault
	}
	n = joined(r.rest[:size])
	if n > uint64(mostOf(size)) {
		e = api.ErrRange
		goto fault
	}
	r.pass(size)
	return int(n)

fault:
	r.err = e
	return 0
}

// Length: in as few bytes as it takes, else ErrForm; ErrEnd.
func (r *Reader) Length() int {
	if !r.reads() {
		return 0
	}
	n, size, e := lengthAt(r.rest)
	if e != api.OK {
		goto fault
	}
	r.pass(size)
	return n

fault:
	r.err = e
	return 0
}

// Vector: what stands behind its length. ErrForm of more than MaxBytes, however many bytes there are; ErrEnd.
func (r *Reader) Vector() []byte {
	if !r.reads() {
		return nil
	}
	n, size, e := lengthAt(r.rest)
	if e != api.OK {
		goto fault
	}
	if n > api.MaxBytes {
		e = api.ErrForm
		goto fault
	}
	if len(r.rest)-size < n {
		e = api.ErrEnd
		goto fault
	}
	r.pass(size)
	return slices.Clone(r.pass(n))

fault:
	r.err = e
	return nil
}

// Take: n bytes. ErrArg of n below 0; ErrEnd.
func (r *Reader) Take(n int) []byte {
	var e api.Errno
	if !r.reads() {
		return nil
	}
	if n < 0 {
		e = api.ErrArg
		goto fault
	}
	if len(r.rest) < n {
		e = api.ErrEnd
		goto fault
	}
	return slices.Clone(r.pass(n))

fault:
	r.err = e
	return nil
}

// Left: how many bytes are not read; a call that failed read none.
func (r *Reader) Left() int {
	if r == nil {
		return 0
	}
	return len(r.rest)
}

// Err: the first error; ErrArg of a Reader that New did not make.
func (r *Reader) Err() api.Errno {
	if r == nil || !r.made {
		return api.ErrArg
	}
	return r.err
}

// End: the first error; else ErrForm, if there are bytes left.
func (r *Reader) End() api.Errno {
	e := r.Err()
	if e == api.OK && r.Left() != 0 {
		e = api.ErrForm
	}
	return e
}

// reads: New made it, and no call has failed.
func (r *Reader) reads() bool { return r.Err() == api.OK }

// pass: over the next n bytes, which are there: they are still the Reader's own.
func (r *Reader) pass(n int) []byte {
	out := r.rest[:n]
	r.rest = r.rest[n:]
	return out
}

// lengthAt: the length that b begins with, and how many bytes it takes.
func lengthAt(b []byte) (n, size int, e api.Errno) {
	var kind int
	if len(b) == 0 {
		e = api.ErrEnd
		goto fault
	}
	kind = int(b[0] >> (bits - kindBits))
	if kind == kinds {
		e = api.ErrForm
		goto fault
	}
	size = 1 << kind
	if len(b) < size {
		e = api.ErrEnd
		goto fault
	}
	n = int(joined(b[:size])) - kind<<lengthBits(kind)
	if kindOf(n) != kind {
		e = api.ErrForm
		goto fault
	}
	return n, size, api.OK

fault:
	return 0, 0, e
}
