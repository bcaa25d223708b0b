package sign

import (
	"synod/api"
	"synod/ladder"
	"synod/point"
	"synod/scalar"
	"synod/sha"
)

// parts: what a seed's hash is cut into.
type parts struct {
	number, prefix []byte
}

// key: a seed's parts, and what is told of them.
type key struct {
	parts
	public []byte
}

// keyOf: a seed's; ErrArg, if it has not 32 bytes.
func keyOf(seed []byte) (key, api.Errno) {
	if len(seed) != size {
		return key{}, api.ErrArg
	}
	h := sha.Sum512(seed)
	number, e := ladder.Clamp(h[:size])
	if e != api.OK {
		return key{}, e
	}
	k := key{parts: parts{number: number, prefix: h[size:]}}
	k.public = times(point.Base(), k.number).Encode()
	return k, api.OK
}

// hashed: the number mod the order that lists of bytes, one behind the other, are hashed to. A hash is never too long for Reduce.
func hashed(lists ...[]byte) []byte {
	h := sha.New(512)
	for _, b := range lists {
		h.Write(b)
	}
	n, _ := scalar.Reduce(h.Sum())
	return n
}

// times: n times p. Numbers of this package always have the 32 bytes that Times asks for.
func times(p point.Point, n []byte) point.Point {
	q, _ := p.Times(n)
	return q
}
