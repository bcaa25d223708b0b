// Package sha is layer 1: SHA-256 and SHA-512, of bytes whole or in pieces: see shared/doc/01-sha.md.
package sha

import "synod/api"

// Hash: of bytes in pieces. Of the two engines the one for its bits works.
type Hash struct {
	bits   int // 0: New did not make it
	narrow engine[uint32]
	wide   engine[uint64]
}

// Sum256: of bytes.
func Sum256(b []byte) []byte {
	m := start[uint32](narrowRules)
	m.write(narrowRules, b)
	return m.sum(narrowRules)
}

// Sum512: of bytes.
func Sum512(b []byte) []byte {
	m := start[uint64](wideRules)
	m.write(wideRules, b)
	return m.sum(wideRules)
}

// New: of 256 or 512 bits, of nothing so far; nil of other bits.
func New(bits int) *Hash {
	switch bits {
	case 256:
		return &Hash{bits: bits, narrow: start[uint32](narrowRules)}
	case 512:
		return &Hash{bits: bits, wide: start[uint64](wideRules)}
	}
	return nil
}

func (h *Hash) made() bool { return h != nil && h.bits != 0 }

// Write: more bytes behind what there is.
func (h *Hash) Write(b []byte) api.Errno {
	if !h.made() {
		return api.ErrArg
	}
	if h.bits == 256 {
		h.narrow.write(narrowRules, b)
	} else {
		h.wide.write(wideRules, b)
	}
	return api.OK
}

// Sum: of all so far; more may be written behind it.
func (h *Hash) Sum() []byte {
	if !h.made() {
		return nil
	}
	if h.bits == 256 {
		return h.narrow.sum(narrowRules)
	}
	return h.wide.sum(wideRules)
}

// Size: how many bytes Sum has.
func (h *Hash) Size() int {
	if !h.made() {
		return 0
	}
	return h.bits / 8
}
