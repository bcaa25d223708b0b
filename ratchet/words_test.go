package ratchet_test

import (
	"bytes"
	"crypto/hkdf"
	"crypto/sha256"
	"encoding/binary"
	"maps"
	"math"
	"math/rand"
	"reflect"
	"slices"
	"testing"

	"synod/api"
	"synod/ratchet"
)

const most = 1 << 32 // generations

var (
	sizes   = []int{1, 2, 4, 8, 16, 32, 64}
	badGens = []int{-1, -2, -32, -33, -most, -most + 1, math.MinInt, math.MinInt + 1, most, most + 1, most + 5, 2 * most, 1<<62 + 1, math.MaxInt - api.MaxAhead, math.MaxInt - 1, math.MaxInt}
)

// noLeaves: numbers of leaves that a tree of n does not have, also such as would be others if they were cut off or doubled.
func noLeaves(n int) []int {
	return []int{-1, -2, -n, n, n + 1, 2*n - 1, 2 * n, 64, 1 << 31, 1 << 32, 1 << 62, 1 << 63 >> 1, math.MinInt, math.MinInt + 1, math.MaxInt - 1, math.MaxInt}
}

func sample(seed int64, n int) []byte {
	b := make([]byte, n)
	rand.New(rand.NewSource(seed)).Read(b)
	return b
}

// slowExpand: chapter 15, by the library; of labels and contexts of less than 64 bytes.
func slowExpand(t testing.TB, secret []byte, label string, context []byte, n int) []byte {
	t.Helper()
	label = "MLS 1.0 " + label
	info := slices.Concat([]byte{byte(n / 256), byte(n % 256), byte(len(label))}, []byte(label), []byte{byte(len(context))}, context)
	out, err := hkdf.Expand(sha256.New, secret, string(info), n)
	if err != nil {
		t.Fatal(err)
	}
	return out
}

// slowLeaf: the secret at a leaf's place, by halving the tree again and again; secret being that of so many leaves.
func slowLeaf(t testing.TB, secret []byte, leaf, leaves int) []byte {
	t.Helper()
	if leaves == 1 {
		return secret
	}
	half := leaves / 2
	if leaf < half {
		return slowLeaf(t, slowExpand(t, secret, "tree", []byte("left"), 32), leaf, half)
	}
	return slowLeaf(t, slowExpand(t, secret, "tree", []byte("right"), 32), leaf-half, half)
}

// line: one ratchet of a leaf.
type line struct {
	leaf int
	text bool
}

// linesOf: of all leaves.
func linesOf(leaves int) []line {
	var out []line
	for i := range leaves {
		out = append(out, line{i, true}, line{i, false})
	}
	return out
}

// words: all that the chapter says of ratchets, by its words: what was used, and each secret from the first one on.
type words struct {
	testing.TB
	secret []byte
	leaves int
	chains map[line][][]byte // secrets, by generations; copies share them
	sures  map[line]int
	used   map[line]map[int]bool
}

func newWords(t testing.TB, secret []byte, leaves int) *words {
	return &words{TB: t, secret: secret, leaves: leaves, chains: map[line][][]byte{}, sures: map[line]int{}, used: map[line]map[int]bool{}}
}

func (w *words) copy() *words {
	out := *w
	out.sures = maps.Clone(w.sures)
	out.used = map[line]map[int]bool{}
	for l, gens := range w.used {
		out.used[l] = maps.Clone(gens)
	}
	return &out
}

func inFour(gen int) []byte { return binary.BigEndian.AppendUint32(nil, uint32(gen)) }

// slowKeys: what the generation's key and nonce are, whatever was used.
func (w *words) slowKeys(l line, gen int) (key, nonce []byte) {
	w.Helper()
	chain := w.chains[l]
	if chain == nil {
		label := map[bool]string{true: "application", false: "handshake"}[l.text]
		chain = [][]byte{slowExpand(w, slowLeaf(w, w.secret, l.leaf, w.leaves), label, nil, 32)}
	}
	for g := len(chain) - 1; g < gen; g++ {
		chain = append(chain, slowExpand(w, chain[g], "secret", inFour(g), 32))
	}
	w.chains[l] = chain
	return slowExpand(w, chain[gen], "key", inFour(gen), 16), slowExpand(w, chain[gen], "nonce", inFour(gen), 12)
}

// kept: of all generations from Sure less MaxAhead on, those that were not used.
func (w *words) kept(l line) []int {
	var out []int
	for g := range w.sures[l] {
		if g >= w.sures[l]-api.MaxAhead && !w.used[l][g] {
			out = append(out, g)
		}
	}
	return out
}

// refusal: of Key and Use.
func (w *words) refusal(l line, gen int) api.Errno {
	switch sure := w.sures[l]; {
	case l.leaf < 0 || l.leaf >= w.leaves:
		return api.ErrArg
	case gen < 0 || gen >= most:
		return api.ErrRange
	case gen < sure && !slices.Contains(w.kept(l), gen):
		return api.ErrUsed
	case gen > sure+api.MaxAhead:
		return api.ErrFar
	}
	return api.OK
}

func (w *words) use(l line, gen int) {
	if w.used[l] == nil {
		w.used[l] = map[int]bool{}
	}
	w.used[l][gen] = true
	w.sures[l] = max(w.sures[l], gen+1)
}

// pair: Ratchets and the words, which are driven alike and held against each other.
type pair struct {
	*words
	r *ratchet.Ratchets
}

func newPair(t testing.TB, seed int64, leaves int) *pair {
	t.Helper()
	secret := sample(seed, 32)
	r, e := ratchet.New(secret, leaves)
	if e != api.OK || r == nil {
		t.Fatalf("New of %d leaves: error %d", leaves, e)
	}
	return &pair{newWords(t, secret, leaves), r}
}

func (p *pair) copy() *pair { return &pair{p.words.copy(), p.r.Copy()} }

// checkKeys: told keys against an error, and against those of a generation, where it is OK.
func (p *pair) checkKeys(what string, l line, gen int, key, nonce []byte, e, want api.Errno) {
	p.Helper()
	var wantKey, wantNonce []byte
	if want == api.OK {
		wantKey, wantNonce = p.slowKeys(l, gen)
	}
	if e != want || !bytes.Equal(key, wantKey) || !bytes.Equal(nonce, wantNonce) {
		p.Fatalf("%s of %v, generation %d, Sure %d: %x, %x, error %d, not %x, %x, %d", what, l, gen, p.sures[l], key, nonce, e, wantKey, wantNonce, want)
	}
}

func (p *pair) key(l line, gen int) {
	p.Helper()
	key, nonce, e := p.r.Key(l.leaf, l.text, gen)
	p.checkKeys("Key", l, gen, key, nonce, e, p.refusal(l, gen))
}

func (p *pair) use(l line, gen int) {
	p.Helper()
	want := p.refusal(l, gen)
	if e := p.r.Use(l.leaf, l.text, gen); e != want {
		p.Fatalf("Use of %v, generation %d, Sure %d: error %d, not %d", l, gen, p.sures[l], e, want)
	}
	if want == api.OK {
		p.words.use(l, gen)
	}
}

// next: of a leaf that is there, not at the end.
func (p *pair) next(l line) {
	p.Helper()
	want := p.sures[l]
	gen, key, nonce, e := p.r.Next(l.leaf, l.text)
	p.checkKeys("Next", l, want, key, nonce, e, api.OK)
	if gen != want {
		p.Fatalf("Next of %v: generation %d, not %d", l, gen, want)
	}
	p.words.use(l, gen)
}

// looks: Sure and Kept.
func (p *pair) looks(l line) {
	p.Helper()
	if n, e := p.r.Sure(l.leaf, l.text); n != p.sures[l] || e != api.OK {
		p.Fatalf("Sure of %v: %d, not %d, error %d", l, n, p.sures[l], e)
	}
	if got, want := p.r.Kept(l.leaf, l.text), p.kept(l); !slices.Equal(got, want) {
		p.Fatalf("Kept of %v, Sure %d: %v, not %v", l, p.sures[l], got, want)
	}
}

// whole: both looks, and Key of all generations below Sure that may matter, and of those ahead at the edges.
func (p *pair) whole(l line) {
	p.Helper()
	p.looks(l)
	sure := p.sures[l]
	for gen := sure - api.MaxAhead - 3; gen <= sure+1; gen++ {
		p.key(l, gen)
	}
	p.key(l, sure+api.MaxAhead)
	p.key(l, sure+api.MaxAhead+1)
}

// all: the ratchets that were used whole, the others where they begin.
func (p *pair) all() {
	p.Helper()
	for _, l := range linesOf(p.leaves) {
		if p.sures[l] > 0 {
			p.whole(l)
		} else {
			p.looks(l)
			p.key(l, 0)
		}
	}
}

// unchanged: what call does leaves what is held as it was, also what no call tells.
func (p *pair) unchanged(what string, call func()) {
	p.Helper()
	before := p.r.Copy()
	call()
	if !reflect.DeepEqual(p.r, before) {
		p.Fatalf("%s has changed something", what)
	}
}
