package framing

import "synod/api"

const (
	maxGroup      = 255
	maxMore       = 255
	maxBody       = 40000
	maxContext    = 2000
	maxPad        = 1000
	maxGen        = 1<<32 - 1 // as much as its four bytes hold
	signatureSize = 64
	confirmSize   = 32
	tagSize       = 32
	senderSize    = 28 // of an origin that is sealed: 12 bytes, and gcm's tag of 16
	leastBody     = 16 // of a body that is sealed: gcm's tag, of nothing
)

// all: say yes. They are asked one by one, so that none has to bear what one ahead of it refuses.
func all(asked ...func() bool) bool {
	for _, yes := range asked {
		if !yes() {
			return false
		}
	}
	return true
}

// refusal: ErrArg, if one of those asked says no, ahead of ErrSize of a context that is too long.
func refusal(context []byte, asked ...func() bool) api.Errno {
	if !all(asked...) {
		return api.ErrArg
	}
	if len(context) > maxContext {
		return api.ErrSize
	}
	return api.OK
}

func (c Content) mayBe() bool {
	return all(c.head().mayBe, c.comes) && len(c.Body) <= maxBody
}

// comes: from one who there may be. Who joins has no leaf yet, and does so by a commit.
func (c Content) comes() bool {
	switch c.From {
	case Member:
		return isLeaf(c.Leaf)
	case Joining:
		return c.Leaf == 0 && c.Kind == Commit
	}
	return false
}

func isLeaf(n int) bool { return n >= 0 && n < api.MaxLeaves }

func (s Signed) mayBe() bool { return s.mayBeUnsigned() && len(s.Signature) == signatureSize }

// mayBeUnsigned: but for the Signature.
func (s Signed) mayBeUnsigned() bool {
	return all(s.Content.mayBe, s.goes, s.suits, s.confirms)
}

// goes: in one of both ways.
func (s Signed) goes() bool { return s.isPublic() || s.isPrivate() }

func (s Signed) isPublic() bool { return s.Wire == Public }

func (s Signed) isPrivate() bool { return s.Wire == Private }

// suits: the way it goes. Words are for members alone; who joins has not the keys of theirs yet.
func (s Signed) suits() bool {
	if s.Content.Kind == Words {
		return s.isPrivate()
	}
	return s.Content.From == Member || s.isPublic()
}

// confirms: it is a commit, if it has a Confirm, and only then.
func (s Signed) confirms() bool {
	if s.Content.Kind == Commit {
		return len(s.Confirm) == confirmSize
	}
	return len(s.Confirm) == 0
}

func (x Sealed) mayBe() bool {
	return x.head().mayBe() && len(x.Sender) == senderSize && len(x.Body) >= leastBody && len(x.Body) <= api.MaxBytes
}

// head: what can be read of a message that is sealed, and is in all that are not.
type head struct {
	group       []byte
	epoch, kind int
	more        []byte
}

func (c Content) head() head { return head{c.Group, c.Epoch, c.Kind, c.More} }

func (x Sealed) head() head { return head{x.Group, x.Epoch, x.Kind, x.More} }

func (h head) mayBe() bool {
	return len(h.group) <= maxGroup && h.epoch >= 0 && h.epoch < api.MaxEpoch && h.kind >= Words && h.kind <= Commit && len(h.more) <= maxMore
}
