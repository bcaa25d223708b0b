package gcm

import (
	"synod/aes"
	"synod/api"
)

const (
	nonceSize   = 12
	numberSize  = 4
	tagNumber   = 1 // the counter whose block hides the tag
	firstNumber = 2 // that of the text's first block
)

// lock: a key, and a nonce with room for the number behind it.
type lock struct {
	key, counter [size]byte
}

// lockOf: ErrArg, if the key has not 16 bytes, or the nonce not 12.
func lockOf(key, nonce []byte) (lock, api.Errno) {
	if len(key) != size || len(nonce) != nonceSize {
		return lock{}, api.ErrArg
	}
	var l lock
	copy(l.key[:], key)
	copy(l.counter[:], nonce)
	return l, api.OK
}

// blockAt: the block of the counter with that number.
func (l lock) blockAt(number uint32) block {
	for i := range numberSize {
		l.counter[size-1-i] = byte(number >> (8 * i))
	}
	return l.blockBy(l.counter)
}

// blockBy: the block of b. Keys and blocks of this package always have the 16 bytes that aes asks for.
func (l lock) blockBy(b [size]byte) block {
	out, _ := aes.Block(l.key[:], b[:])
	return blockOf(out)
}

// crossed: the text exclusive-or the counters' blocks, which hides it, and undoes that; with room for a tag behind it.
func (l lock) crossed(text []byte) []byte {
	out := make([]byte, 0, len(text)+size)
	number := uint32(firstNumber)
	for b := range blocks(text) {
		left := min(size, len(text)-len(out))
		out = append(out, b.plus(l.blockAt(number)).bytes()[:left]...)
		number++
	}
	return out
}

// tag: of more and of a text that is hidden.
func (l lock) tag(more, hidden []byte) block {
	lengths := block{bitsOf(more), bitsOf(hidden)}
	h := l.blockBy([size]byte{})
	return hashed(h, blocks(more, hidden, lengths.bytes())).plus(l.blockAt(tagNumber))
}

// bitsOf: how long a text of either kind is.
func bitsOf[T ~string | ~[]byte](text T) uint64 { return 8 * uint64(len(text)) }
