package labels

import (
	"synod/api"
	"synod/codec"
)

const version = "MLS 1.0 "

// most: bytes of a label and of what it labels, so that a label is a vector also with the version ahead of it.
const most = api.MaxBytes - len(version)

// purpose: a label: what something is for.
type purpose string

// labelled: a content as it is signed, and as keys are made for it.
func (p purpose) labelled(content []byte) ([]byte, api.Errno) {
	return p.ahead(p.versioned, content)
}

// named: a value as short names are made of it. The one who asks for them tells the version, if there is one.
func (p purpose) named(value []byte) ([]byte, api.Errno) {
	return p.ahead(p.plain, value)
}

// ahead: the label, as one of its methods writes it, and a content. Each is a vector of its own, so that no byte of one can be taken for one of the other.
func (p purpose) ahead(written func() []byte, content []byte) ([]byte, api.Errno) {
	if len(p) > most || len(content) > most {
		return nil, api.ErrSize
	}
	return codec.Vectors(written(), content)
}

func (p purpose) versioned() []byte { return joined([]byte(version), p.plain()) }

func (p purpose) plain() []byte { return []byte(p) }

// joined: texts, one behind the other.
func joined(texts ...[]byte) []byte {
	var out []byte
	for _, b := range texts {
		out = append(out, b...)
	}
	return out
}
