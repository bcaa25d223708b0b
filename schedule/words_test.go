package schedule_test

import (
	"bytes"
	"crypto/hkdf"
	"crypto/hmac"
	"crypto/sha256"
	"encoding/binary"
	"math/rand"
	"slices"
	"testing"

	"synod/api"
	"synod/schedule"
)

const (
	maxKey   = api.MaxBytes - 8 // bytes of a Psk's Key
	maxLabel = api.MaxBytes - 8
)

func sample(seed int64, n int) []byte {
	b := make([]byte, n)
	rand.New(rand.NewSource(seed)).Read(b)
	return b
}

// flipped: b with one bit changed.
func flipped(b []byte, bit int) []byte {
	b = bytes.Clone(b)
	b[bit/8] ^= 1 << (bit % 8)
	return b
}

// slowVector: chapter 11's words one by one.
func slowVector(b []byte) []byte {
	var head []byte
	switch n := len(b); {
	case n <= 63:
		head = []byte{byte(n)}
	case n <= 16383:
		head = binary.BigEndian.AppendUint16(nil, 0x4000|uint16(n))
	default:
		head = binary.BigEndian.AppendUint32(nil, 0x80000000|uint32(n))
	}
	return slices.Concat(head, b)
}

// slowExtract, slowExpand, slowDerive, slowSum: chapters 1, 2 and 15, by the library.
func slowExtract(t *testing.T, salt, ikm []byte) []byte {
	t.Helper()
	out, err := hkdf.Extract(sha256.New, ikm, salt)
	if err != nil {
		t.Fatal(err)
	}
	return out
}

func slowExpand(t *testing.T, secret []byte, label string, context []byte, n int) []byte {
	t.Helper()
	info := slices.Concat([]byte{byte(n / 256), byte(n % 256)}, slowVector([]byte("MLS 1.0 "+label)), slowVector(context))
	out, err := hkdf.Expand(sha256.New, secret, string(info), n)
	if err != nil {
		t.Fatal(err)
	}
	return out
}

func slowDerive(t *testing.T, secret []byte, label string) []byte {
	t.Helper()
	return slowExpand(t, secret, label, nil, 32)
}

func slowSum(parts ...[]byte) []byte {
	sum := sha256.Sum256(slices.Concat(parts...))
	return sum[:]
}

func slowTag(key, text []byte) []byte {
	h := hmac.New(sha256.New, key)
	h.Write(text)
	return h.Sum(nil)
}

// slowContext: the chapter's words, also of a Context that may not be.
func slowContext(c schedule.Context) []byte {
	epoch := binary.BigEndian.AppendUint64(nil, uint64(c.Epoch))
	return slices.Concat([]byte{0, 1, 0, 1}, slowVector(c.Group), epoch, slowVector(c.Tree), slowVector(c.Transcript), []byte{0})
}

// slowPskSecret: the chapter's words.
func slowPskSecret(t *testing.T, l []schedule.Psk) []byte {
	t.Helper()
	zeros := make([]byte, 32)
	secret, n := zeros, len(l)
	for i, p := range l {
		text := slices.Concat([]byte{1}, slowVector(p.ID), slowVector(p.Nonce), []byte{0, byte(i), 0, byte(n)})
		key := slowExpand(t, slowExtract(t, zeros, p.Key), "derived psk", text, 32)
		secret = slowExtract(t, key, secret)
	}
	return secret
}

// slowEpoch: the chapter's words.
func slowEpoch(t *testing.T, joiner, psk []byte, c schedule.Context) schedule.Secrets {
	t.Helper()
	m := slowExtract(t, joiner, psk)
	s := slowExpand(t, m, "epoch", slowContext(c), 32)
	return schedule.Secrets{
		SenderData:   slowDerive(t, s, "sender data"),
		Encryption:   slowDerive(t, s, "encryption"),
		Exporter:     slowDerive(t, s, "exporter"),
		External:     slowDerive(t, s, "external"),
		Confirm:      slowDerive(t, s, "confirm"),
		Member:       slowDerive(t, s, "membership"),
		Resume:       slowDerive(t, s, "resumption"),
		Authenticate: slowDerive(t, s, "authentication"),
		Init:         slowDerive(t, s, "init"),
		Welcome:      slowDerive(t, m, "welcome"),
		Joiner:       joiner,
	}
}

// contextLists, secretLists, pskLists: all lists of one.
func contextLists(c *schedule.Context) []*[]byte {
	return []*[]byte{&c.Group, &c.Tree, &c.Transcript}
}

func secretLists(s *schedule.Secrets) []*[]byte {
	return []*[]byte{&s.SenderData, &s.Encryption, &s.Exporter, &s.External, &s.Confirm, &s.Member, &s.Resume, &s.Authenticate, &s.Init, &s.Welcome, &s.Joiner}
}

func pskLists(p *schedule.Psk) []*[]byte { return []*[]byte{&p.ID, &p.Nonce, &p.Key} }

// told: what the lists hold.
func told(lists []*[]byte) [][]byte {
	var out [][]byte
	for _, b := range lists {
		out = append(out, *b)
	}
	return out
}

func same(a, b [][]byte) bool { return slices.EqualFunc(a, b, bytes.Equal) }

func sameContext(a, b schedule.Context) bool {
	return a.Epoch == b.Epoch && same(told(contextLists(&a)), told(contextLists(&b)))
}

func sameSecrets(a, b schedule.Secrets) bool {
	return same(told(secretLists(&a)), told(secretLists(&b)))
}

// context: one that may be, with lists of so many bytes.
func context(epoch, group, tree, transcript int) schedule.Context {
	return schedule.Context{Group: sample(int64(group), group), Epoch: epoch, Tree: sample(int64(300+tree), tree), Transcript: sample(int64(600+transcript), transcript)}
}

// contexts: that may be, at all edges: of lists, of the forms of their lengths, and of epochs.
func contexts() []schedule.Context {
	out := []schedule.Context{{}, {Group: []byte("g")}, {Tree: []byte{0}}, {Transcript: []byte{1}}, context(api.MaxEpoch-1, 255, 255, 255)}
	for _, n := range []int{0, 1, 31, 32, 62, 63, 64, 65, 127, 128, 254, 255} {
		out = append(out, context(n, n, 32, 32), context(5, 1, n, 32), context(5, 1, 32, n), context(5, n, n, n))
	}
	for _, epoch := range []int{0, 1, 2, 255, 256, 65535, 65536, 1<<24 - 1, 1 << 24, 1<<31 - 1, 1 << 31, api.MaxEpoch - 2, api.MaxEpoch - 1} {
		out = append(out, context(epoch, 5, 32, 32), schedule.Context{Epoch: epoch})
	}
	return out
}

// badContexts: that may not be, each for one cause, and for all of them.
func badContexts() []schedule.Context {
	var out []schedule.Context
	for _, n := range []int{256, 257, 511, 512, 16384, api.MaxBytes, api.MaxBytes + 1, 1 << 20} {
		out = append(out, context(5, n, 32, 32), context(5, 1, n, 32), context(5, 1, 32, n), context(5, n, 0, 0), context(-1, n, n, n))
	}
	for _, epoch := range badEpochs() {
		out = append(out, context(epoch, 5, 32, 32), schedule.Context{Epoch: epoch})
	}
	return out
}

func badEpochs() []int {
	return []int{-1, -2, -api.MaxEpoch, -1 << 63, -1<<63 + 7, api.MaxEpoch, api.MaxEpoch + 1, 1<<33 + 5, 1<<62 - 1, 1 << 62, 1<<63 - 1}
}
