package nodes_test

import (
	"bytes"
	"encoding/binary"
	"math/rand"
	"slices"
	"testing"

	"synod/api"
	"synod/nodes"
)

// checkLeaf, checkParent, checkPackage: read as it was.
func checkLeaf(t *testing.T, b []byte, want nodes.Leaf) {
	t.Helper()
	if got, e := nodes.GetLeaf(b); e != api.OK || !sameLeaf(got, want) {
		t.Fatalf("%s: %s, error %d, not %s", short(b), short(got), e, short(want))
	}
}

func checkParent(t *testing.T, b []byte, want nodes.Parent) {
	t.Helper()
	if got, e := nodes.GetParent(b); e != api.OK || !sameParent(got, want) {
		t.Fatalf("%s: %s, error %d, not %s", short(b), short(got), e, short(want))
	}
}

func checkPackage(t *testing.T, b []byte, want nodes.Package) {
	t.Helper()
	if got, e := nodes.GetPackage(b); e != api.OK || !samePackage(got, want) {
		t.Fatalf("%s: %s, error %d, not %s", short(b), short(got), e, short(want))
	}
}

// checkNoLeaf, checkNoParent, checkNoPackage: ErrForm and nothing beside it.
func checkNoLeaf(t *testing.T, b []byte) {
	t.Helper()
	if got, e := nodes.GetLeaf(b); e != api.ErrForm || !sameLeaf(got, nodes.Leaf{}) {
		t.Fatalf("%s: %s, error %d", short(b), short(got), e)
	}
}

func checkNoParent(t *testing.T, b []byte) {
	t.Helper()
	if got, e := nodes.GetParent(b); e != api.ErrForm || !sameParent(got, nodes.Parent{}) {
		t.Fatalf("%s: %s, error %d", short(b), short(got), e)
	}
}

func checkNoPackage(t *testing.T, b []byte) {
	t.Helper()
	if got, e := nodes.GetPackage(b); e != api.ErrForm || !samePackage(got, nodes.Package{}) {
		t.Fatalf("%s: %s, error %d", short(b), short(got), e)
	}
}

// P1302, P1304: what is put is got as it was.
func TestThereAndBack(t *testing.T) {
	for _, l := range leaves() {
		b, _ := nodes.PutLeaf(l)
		checkLeaf(t, b, l)
		checkLeaf(t, slowLeaf(l), l)
	}
	for _, p := range parents() {
		b, _ := nodes.PutParent(p)
		checkParent(t, b, p)
		checkParent(t, slowParent(p), p)
	}
	for _, p := range packages() {
		b, _ := nodes.PutPackage(p)
		checkPackage(t, b, p)
		checkPackage(t, slowPackage(p), p)
	}
}

// P1302: what may not be, written all the same.
func TestGetRefused(t *testing.T) {
	for _, l := range badLeaves() {
		if l.Source >= 0 && l.Source < 256 && (l.Source == nodes.Committed || len(l.Hash) == 0) {
			checkNoLeaf(t, slowLeaf(l))
			checkNoPackage(t, slowPackage(packed(l)))
		}
	}
	for _, p := range badParents() {
		if !slices.ContainsFunc(p.Unmerged, func(n int) bool { return n < 0 || n >= 1<<32 }) {
			checkNoParent(t, slowParent(p))
		}
	}
	for _, p := range badPackages() {
		if p.Leaf.Source == nodes.Offered && len(p.Leaf.Hash) != 0 || p.Leaf.Source > 255 || p.Leaf.Source < 0 {
			continue
		}
		checkNoPackage(t, slowPackage(p))
	}
}

// form: good bytes of each kind, and how bytes of the kind are refused.
type form struct {
	b  []byte
	no func(t *testing.T, b []byte)
}

func forms() []form {
	var out []form
	for _, l := range leaves() {
		out = append(out, form{slowLeaf(l), checkNoLeaf})
	}
	for _, p := range parents() {
		out = append(out, form{slowParent(p), checkNoParent})
	}
	for _, p := range packages() {
		out = append(out, form{slowPackage(p), checkNoPackage})
	}
	return out
}

// P1302: no bytes, bytes that end too early at each place, and bytes behind.
func TestGetOfOtherLengths(t *testing.T) {
	for _, f := range forms() {
		for n := range f.b {
			f.no(t, f.b[:n])
		}
		for _, x := range []byte{0, 1, 32, 255} {
			f.no(t, append(bytes.Clone(f.b), x))
			f.no(t, append([]byte{x}, f.b...))
		}
		f.no(t, append(bytes.Clone(f.b), f.b...))
		f.no(t, append(bytes.Clone(f.b), make([]byte, 2*api.MaxBytes)...))
		f.no(t, nil)
		f.no(t, []byte{})
	}
	for n := range 300 {
		for _, b := range [][]byte{make([]byte, n), bytes.Repeat([]byte{255}, n), bytes.Repeat([]byte{1}, n), bytes.Repeat([]byte{32}, n)} {
			checkNoLeaf(t, b)
			checkNoParent(t, b)
			checkNoPackage(t, b)
		}
	}
}

// longer: the vector of b, its length in so many bytes, 2 or 4, more than it needs.
func longer(b []byte, size int) []byte {
	if size == 2 {
		return append(binary.BigEndian.AppendUint16(nil, 0x4000|uint16(len(b))), b...)
	}
	return append(binary.BigEndian.AppendUint32(nil, 0x80000000|uint32(len(b))), b...)
}

// checkLonger: good is the vectors of all parts, where one has no length before it if raw says so; none of the others may take more bytes.
func checkLonger(t *testing.T, raw []bool, parts [][]byte, good []byte, no func(t *testing.T, b []byte)) {
	t.Helper()
	for odd := range len(parts) + 1 {
		for _, size := range []int{2, 4} {
			var b []byte
			for i, part := range parts {
				switch {
				case raw[i]:
					b = append(b, part...)
				case i == odd && (size == 4 || len(part) < 64):
					b = append(b, longer(part, size)...)
				default:
					b = append(b, slowVector(part)...)
				}
			}
			if (odd == len(parts) || raw[odd]) && !bytes.Equal(b, good) {
				t.Fatalf("other parts: %x, not %x", b, good)
			}
			if !bytes.Equal(b, good) {
				no(t, b)
			}
		}
	}
}

// P1302: each length in more bytes than it needs, and one that begins with 11.
func TestGetOfLongerLengths(t *testing.T) {
	for _, l := range leaves() {
		raw := []bool{false, false, false, true, false}
		parts := [][]byte{l.Enc, l.Sig, l.Name, {byte(l.Source)}, l.Signature}
		if l.Source == nodes.Committed {
			raw, parts = append(raw, false), [][]byte{l.Enc, l.Sig, l.Name, {byte(l.Source)}, l.Hash, l.Signature}
		}
		checkLonger(t, raw, parts, slowLeaf(l), checkNoLeaf)
		if l.Source == nodes.Offered {
			p := packed(l)
			raw := append(append([]bool{true, false}, raw...), false)
			parts := append(append([][]byte{{0, 1, 0, 1}, p.Init}, parts...), p.Signature)
			checkLonger(t, raw, parts, slowPackage(p), checkNoPackage)
		}
	}
	for _, p := range parents() {
		list := slowParent(nodes.Parent{Unmerged: p.Unmerged})[2:]
		list = list[len(list)-4*len(p.Unmerged):]
		checkLonger(t, []bool{false, false, false}, [][]byte{p.Enc, p.Hash, list}, slowParent(p), checkNoParent)
	}
	for _, f := range forms() {
		f.no(t, append([]byte{0xc0 | f.b[0]}, f.b[1:]...))
	}
}

// P1302: each byte that a Source may be.
func TestGetOfSources(t *testing.T) {
	for source := range 256 {
		l := leaf(source, 3, 0)
		if source == nodes.Offered {
			checkPackage(t, slowPackage(packed(l)), packed(l))
		} else {
			checkNoPackage(t, slowPackage(packed(l)))
		}
		if source >= nodes.Offered && source <= nodes.Committed {
			checkLeaf(t, slowLeaf(l), l)
		} else {
			checkNoLeaf(t, slowLeaf(l))
		}
	}
}

// P1302: a Hash's vector where none stands, and none where one does.
func TestGetOfHashes(t *testing.T) {
	for _, source := range []int{nodes.Offered, nodes.Updated} {
		for _, n := range []int{0, 32} {
			l := leaf(source, 3, n)
			b := slices.Concat(slowUnsigned(l), slowVector(l.Hash), slowVector(l.Signature))
			checkNoLeaf(t, b)
			checkNoPackage(t, slices.Concat([]byte{0, 1, 0, 1}, slowVector(sample(1, 32)), b, slowVector(sample(1, 64))))
		}
	}
	l := leaf(nodes.Committed, 3, 0)
	b := slowUnsigned(l)
	checkNoLeaf(t, append(b[:len(b)-1], slowVector(l.Signature)...))
}

// P1302: other versions and suites.
func TestGetOfVersions(t *testing.T) {
	p := packed(leaf(nodes.Offered, 3, 0))
	for _, at := range []int{0, 2} {
		for n := range 1 << 16 {
			b := slowPackage(p)
			binary.BigEndian.PutUint16(b[at:], uint16(n))
			if n == 1 {
				checkPackage(t, b, p)
			} else {
				checkNoPackage(t, b)
			}
		}
	}
}

// P1302: Unmerged of bytes that are not four each.
func TestGetOfUnevenUnmerged(t *testing.T) {
	for n := range 300 {
		if list := make([]byte, n); n == 0 || n == 4 {
			checkParent(t, slices.Concat(slowVector(sample(1, 32)), []byte{0}, slowVector(list)), nodes.Parent{Enc: sample(1, 32), Unmerged: numbers(n / 4)})
		} else {
			checkNoParent(t, slices.Concat(slowVector(sample(1, 32)), []byte{0}, slowVector(list)))
		}
	}
	list := []byte{0, 0, 0, 1, 0, 0, 0, 2, 0, 0, 0, 3}
	for n := range list {
		b := slices.Concat(slowVector(sample(1, 32)), []byte{0}, slowVector(list[:n]))
		if n%4 == 0 {
			checkParent(t, b, nodes.Parent{Enc: sample(1, 32), Unmerged: numbers(n/4 + 1)[1:]})
		} else {
			checkNoParent(t, b)
		}
	}
}

// checkPutAgain: bytes that are got, as whatever kind, are put the same; how many kinds they were got as.
func checkPutAgain(t *testing.T, b []byte) int {
	t.Helper()
	kinds := 0
	check := func(again []byte, e, got api.Errno) {
		t.Helper()
		if got != api.OK && got != api.ErrForm {
			t.Fatalf("%x: error %d", b, got)
		}
		if got == api.OK {
			kinds++
			checkPut(t, b, again, e, b)
		}
	}
	l, got := nodes.GetLeaf(b)
	again, e := nodes.PutLeaf(l)
	check(again, e, got)
	parent, got := nodes.GetParent(b)
	again, e = nodes.PutParent(parent)
	check(again, e, got)
	p, got := nodes.GetPackage(b)
	again, e = nodes.PutPackage(p)
	check(again, e, got)
	return kinds
}

// P1304: bytes that are got are put the same: good ones, with a byte changed, taken out or put in.
func TestBackAndThere(t *testing.T) {
	random := rand.New(rand.NewSource(1))
	got := 0
	for _, f := range forms() {
		if checkPutAgain(t, f.b) != 1 {
			t.Fatalf("%x: not got", f.b)
		}
		for range 60 {
			at, x := random.Intn(len(f.b)), []byte{0, 1, 2, 3, 4, 31, 32, 33, 63, 64, 128, 255, byte(random.Intn(256))}[random.Intn(13)]
			b := bytes.Clone(f.b)
			b[at] = x
			got += checkPutAgain(t, b)
			got += checkPutAgain(t, slices.Delete(bytes.Clone(f.b), at, at+1))
			got += checkPutAgain(t, slices.Insert(bytes.Clone(f.b), at, x))
		}
	}
	if got < 500 {
		t.Errorf("only %d of the changed ones were got", got)
	}
	for range 20000 {
		checkPutAgain(t, sample(random.Int63(), random.Intn(400)))
	}
}

// P1302: each byte of the heads changed to every other: got, it is another node.
func TestEachByteCounts(t *testing.T) {
	l, p := leaf(nodes.Committed, 3, 32), packed(leaf(nodes.Offered, 3, 0))
	for at := range slowLeaf(l) {
		for x := 1; x < 256; x++ {
			b := slowLeaf(l)
			b[at] ^= byte(x)
			if got, e := nodes.GetLeaf(b); e == api.OK && sameLeaf(got, l) || e != api.OK && e != api.ErrForm {
				t.Fatalf("byte %d: %v, error %d", at, got, e)
			}
		}
	}
	for at := range slowPackage(p) {
		for x := 1; x < 256; x++ {
			b := slowPackage(p)
			b[at] ^= byte(x)
			if got, e := nodes.GetPackage(b); e == api.OK && samePackage(got, p) || e != api.OK && e != api.ErrForm {
				t.Fatalf("byte %d: %v, error %d", at, got, e)
			}
		}
	}
}
