package hpke

import (
	"slices"

	"synod/api"
	"synod/gcm"
)

const (
	keySize   = 16
	nonceSize = 12
	maxExport = 8160 // what hkdf can expand
	baseMode  = 0    // nothing but the key is shared
)

// keys: what a context works with, the same at both ends.
type keys struct {
	key, nonce, exporter []byte
}

// Context: of a sender, or a receiver.
type Context struct {
	keys          // none: New did not make it
	number uint64 // how many messages went through
}

// New: a context at its first message. ErrArg, if shared has not 32 bytes; ErrSize, if info has more than MaxBytes.
func New(shared, info []byte) (*Context, api.Errno) {
	if len(shared) != size {
		return nil, api.ErrArg
	}
	if len(info) > api.MaxBytes {
		return nil, api.ErrSize
	}
	return &Context{keys: keysOf(shared, info)}, api.OK
}

// keysOf: of a shared key, for what info says.
func keysOf(shared, info []byte) keys {
	about := slices.Concat([]byte{baseMode}, all.extract(nil, "psk_id_hash"), all.extract(nil, "info_hash", info))
	secret := all.extract(shared, "secret")
	return keys{
		key:      all.expand(secret, keySize, "key", about),
		nonce:    all.expand(secret, nonceSize, "base_nonce", about),
		exporter: all.expand(secret, size, "exp", about),
	}
}

// nonceOf: of the message with that number: no two have the same, for gcm hides nothing with a nonce that was used.
func (k keys) nonceOf(number uint64) []byte {
	out := slices.Clone(k.nonce)
	for i := range 8 {
		out[nonceSize-1-i] ^= byte(number >> (8 * i))
	}
	return out
}

func (c *Context) made() bool { return c != nil && len(c.key) != 0 }

// Seal: the next message.
func (c *Context) Seal(more, text []byte) ([]byte, api.Errno) {
	return c.next(gcm.Seal, more, text)
}

// Open: the next message.
func (c *Context) Open(more, b []byte) ([]byte, api.Errno) {
	return c.next(gcm.Open, more, b)
}

// Export: n bytes that both ends can work out, for what more says.
func (c *Context) Export(more []byte, n int) ([]byte, api.Errno) {
	if !c.made() {
		return nil, api.ErrArg
	}
	if n < 0 || n > maxExport || len(more) > api.MaxBytes {
		return nil, api.ErrSize
	}
	return all.expand(c.exporter, n, "sec", more), api.OK
}

// next: b through gcm by the nonce whose turn it is. With an error the number stays, so that both ends keep the same one whatever came in between.
func (c *Context) next(through func(key, nonce, more, b []byte) ([]byte, api.Errno), more, b []byte) ([]byte, api.Errno) {
	if !c.made() {
		return nil, api.ErrArg
	}
	out, e := through(c.key, c.nonceOf(c.number), more, b)
	if e != api.OK {
		return nil, e
	}
	c.number++
	return out, api.OK
}

// atOnce: what the last step, a context's method, makes of b as the first message of a new context.
func atOnce(last func(c *Context, more, b []byte) ([]byte, api.Errno), shared, info, more, b []byte) ([]byte, api.Errno) {
	c, e := New(shared, info)
	if e != api.OK {
		return nil, e
	}
	return last(c, more, b)
}
