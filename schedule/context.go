package schedule

import (
	"slices"

	"synod/api"
	"synod/codec"
)

const (
	version    = 1 // of the protocol
	suite      = 1 // the only one
	kindSize   = 2 // bytes of each of these two
	epochSize  = 8
	maxContext = 255 // bytes of each list of a Context
)

// PutContext, GetContext: as bytes and back. ErrArg of one that may not be; ErrForm of bytes that none is put as.
func PutContext(c Context) ([]byte, api.Errno) {
	if !mayBe(c) {
		return nil, api.ErrArg
	}
	kind := slices.Concat(number(version, kindSize), number(suite, kindSize))
	return slices.Concat(kind, vectors(c.Group), number(c.Epoch, epochSize), vectors(c.Tree, c.Transcript, nil)), api.OK
}

func GetContext(b []byte) (Context, api.Errno) {
	var c Context
	r := codec.New(b)
	protocol, ciphers := r.Number(kindSize), r.Number(kindSize)
	c.Group = r.Vector()
	c.Epoch = r.Number(epochSize)
	c.Tree, c.Transcript = r.Vector(), r.Vector()
	more := r.Vector()
	if r.End() != api.OK || protocol != version || ciphers != suite || len(more) != 0 || !mayBe(c) {
		return Context{}, api.ErrForm
	}
	return c, api.OK
}

func mayBe(c Context) bool {
	for _, b := range [][]byte{c.Group, c.Tree, c.Transcript} {
		if len(b) > maxContext {
			return false
		}
	}
	return c.Epoch >= 0 && c.Epoch < api.MaxEpoch
}

// number, vectors: as codec writes them. What is written here was asked for its size ahead, so that codec refuses none.
func number(n, size int) []byte {
	b, _ := codec.Number(n, size)
	return b
}

func vectors(l ...[]byte) []byte {
	b, _ := codec.Vectors(l...)
	return b
}
