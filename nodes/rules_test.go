package nodes_test

import (
	"bytes"
	"reflect"
	"slices"
	"testing"

	"synod/api"
	"synod/nodes"
)

// spoil: b and the room behind it.
func spoil[T byte | int](b []T) {
	b = b[:cap(b)]
	for i := range b {
		b[i] ^= 127
	}
}

// roomy: b with room behind it, and the whole of it.
func roomy[T byte | int](b []T) (part, whole []T) {
	whole = append(slices.Clone(b), 1, 2, 3, 4, 5, 6, 7, 8, 9, 10)
	return whole[:len(b)], whole
}

// roomyLeaf: a copy of l with room behind each list, and all of that memory.
func roomyLeaf(l nodes.Leaf) (nodes.Leaf, [][]byte) {
	all := make([][]byte, 5)
	for i, list := range []*[]byte{&l.Enc, &l.Sig, &l.Name, &l.Hash, &l.Signature} {
		*list, all[i] = roomy(*list)
	}
	return l, all
}

func roomyPackage(p nodes.Package) (nodes.Package, [][]byte) {
	l, all := roomyLeaf(p.Leaf)
	init, wholeInit := roomy(p.Init)
	signature, wholeSignature := roomy(p.Signature)
	return nodes.Package{Init: init, Leaf: l, Signature: signature}, append(all, wholeInit, wholeSignature)
}

// clones: of lists.
func clones(lists [][]byte) [][]byte {
	out := make([][]byte, len(lists))
	for i, b := range lists {
		out[i] = bytes.Clone(b)
	}
	return out
}

// answer: bytes and an error.
type answer struct {
	b []byte
	e api.Errno
}

func answered(b []byte, e api.Errno) answer { return answer{b, e} }

// checkPure: a call answers the same twice, does not change the memory that its arguments are in, and shares none with it, nor with its other answer.
func checkPure(t *testing.T, memory [][]byte, want answer, call func() answer) {
	t.Helper()
	before := clones(memory)
	one, two := call(), call()
	if !slices.EqualFunc(memory, before, bytes.Equal) {
		t.Fatal("an argument is changed")
	}
	if one.e != want.e || two.e != want.e || !bytes.Equal(one.b, want.b) || !bytes.Equal(two.b, want.b) {
		t.Fatalf("%s, %s, not %s", short(one), short(two), short(want))
	}
	spoil(one.b)
	if !bytes.Equal(two.b, want.b) {
		t.Fatal("two answers share memory")
	}
	spoil(two.b)
	if !slices.EqualFunc(memory, before, bytes.Equal) {
		t.Fatal("an answer shares memory with an argument")
	}
}

// P1301: putting leaves, and their texts, of those that may be and of those that may not.
func TestLeavesPure(t *testing.T) {
	for _, l := range append(leaves(), badLeaves()...) {
		group, wholeGroup := roomy([]byte("group"))
		same, memory := roomyLeaf(l)
		memory = append(memory, wholeGroup)
		checkPure(t, memory, answered(nodes.PutLeaf(l)), func() answer { return answered(nodes.PutLeaf(same)) })
		checkPure(t, memory, answered(nodes.LeafText(l, []byte("group"), 3)), func() answer { return answered(nodes.LeafText(same, group, 3)) })
	}
}

// P1301: putting packages, and their texts.
func TestPackagesPure(t *testing.T) {
	for _, p := range append(packages(), badPackages()...) {
		same, memory := roomyPackage(p)
		checkPure(t, memory, answered(nodes.PutPackage(p)), func() answer { return answered(nodes.PutPackage(same)) })
		checkPure(t, memory, answered(nodes.PackageText(p)), func() answer { return answered(nodes.PackageText(same)) })
	}
}

// P1301: putting Parents; the Unmerged stay as they are, too.
func TestParentsPure(t *testing.T) {
	for _, p := range append(parents(), badParents()...) {
		enc, wholeEnc := roomy(p.Enc)
		hash, wholeHash := roomy(p.Hash)
		list, wholeList := roomy(p.Unmerged)
		before := slices.Clone(wholeList)
		same := nodes.Parent{Enc: enc, Hash: hash, Unmerged: list}
		checkPure(t, [][]byte{wholeEnc, wholeHash}, answered(nodes.PutParent(p)), func() answer { return answered(nodes.PutParent(same)) })
		if !slices.Equal(wholeList, before) {
			t.Fatal("an argument is changed")
		}
	}
}

// checkGot: lists that were read from whole, whose other part is the room behind: each is spoilt with no weight for the others, for whole, and for other, read from the same bytes.
func checkGot(t *testing.T, whole []byte, lists, other [][]byte) {
	t.Helper()
	before, want := bytes.Clone(whole), clones(other)
	for i, list := range lists {
		if !bytes.Equal(list, want[i]) {
			t.Fatalf("list %d: %x, not %x", i, list, want[i])
		}
		spoil(list)
	}
	if !slices.EqualFunc(other, want, bytes.Equal) {
		t.Fatal("two answers share memory")
	}
	if !bytes.Equal(whole, before) {
		t.Fatal("an answer shares memory with an argument")
	}
	spoil(whole)
	if !slices.EqualFunc(other, want, bytes.Equal) {
		t.Fatal("what was handed in is kept")
	}
}

// P1301: what is got is new memory, and the bytes are not changed.
func TestGotIsNewMemory(t *testing.T) {
	for _, l := range leaves() {
		b, whole := roomy(slowLeaf(l))
		one, _ := nodes.GetLeaf(b)
		two, _ := nodes.GetLeaf(b)
		checkGot(t, whole, leafLists(one), leafLists(two))
	}
	for _, p := range packages() {
		b, whole := roomy(slowPackage(p))
		one, _ := nodes.GetPackage(b)
		two, _ := nodes.GetPackage(b)
		checkGot(t, whole, packageLists(one), packageLists(two))
	}
	for _, p := range parents() {
		b, whole := roomy(slowParent(p))
		one, _ := nodes.GetParent(b)
		two, _ := nodes.GetParent(b)
		spoil(one.Unmerged)
		checkGot(t, whole, [][]byte{one.Enc, one.Hash}, [][]byte{two.Enc, two.Hash})
		if !slices.Equal(two.Unmerged, p.Unmerged) {
			t.Fatal("two answers share memory")
		}
	}
}

// P1301: bytes that are refused are not changed, and the room behind them has no weight.
func TestRefusedBytesStay(t *testing.T) {
	for _, f := range forms() {
		for n := range f.b {
			before := bytes.Clone(f.b)
			f.no(t, f.b[:n])
			if !bytes.Equal(f.b, before) {
				t.Fatal("an argument is changed")
			}
		}
	}
}

// P1301: nil and empty mean the same; none is told as nil, so that what is got is what was put to the last.
func TestNilAndEmpty(t *testing.T) {
	for _, source := range []int{nodes.Offered, nodes.Updated, nodes.Committed} {
		l := with(leaf(source, 3, 0), func(l *nodes.Leaf) { l.Hash = nil })
		want, _ := nodes.PutLeaf(l)
		b, e := nodes.PutLeaf(with(l, func(l *nodes.Leaf) { l.Hash = []byte{} }))
		checkPut(t, l, b, e, want)
		if got, _ := nodes.GetLeaf(b); !reflect.DeepEqual(got, l) {
			t.Errorf("%#v", got)
		}
		one, _ := nodes.LeafText(l, nil, 0)
		two, e := nodes.LeafText(l, []byte{}, 0)
		checkPut(t, l, two, e, one)
	}
	p := nodes.Parent{Enc: sample(1, 32)}
	want, _ := nodes.PutParent(p)
	b, e := nodes.PutParent(nodes.Parent{Enc: sample(1, 32), Hash: []byte{}, Unmerged: []int{}})
	checkPut(t, p, b, e, want)
	if got, _ := nodes.GetParent(b); !reflect.DeepEqual(got, p) {
		t.Errorf("%#v", got)
	}
	for _, empty := range [][]byte{nil, {}} {
		b, e := nodes.PutLeaf(nodes.Leaf{Enc: empty, Sig: empty, Name: empty, Hash: empty, Signature: empty})
		checkNotPut(t, empty, b, e)
		b, e = nodes.PutParent(nodes.Parent{Enc: empty})
		checkNotPut(t, empty, b, e)
		checkNoLeaf(t, empty)
		checkNoParent(t, empty)
		checkNoPackage(t, empty)
	}
}
