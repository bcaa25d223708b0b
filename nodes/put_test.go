package nodes_test

import (
	"bytes"
	"testing"

	"synod/api"
	"synod/nodes"
)

// checkPut: those bytes and no error.
func checkPut(t *testing.T, what any, b []byte, e api.Errno, want []byte) {
	t.Helper()
	if e != api.OK || !bytes.Equal(b, want) {
		t.Fatalf("%s: %s, error %d, not %s", short(what), short(b), e, short(want))
	}
}

// checkNotPut: ErrArg and nothing beside it.
func checkNotPut(t *testing.T, what any, b []byte, e api.Errno) {
	t.Helper()
	if e != api.ErrArg || len(b) != 0 {
		t.Fatalf("%s: %d bytes, error %d", short(what), len(b), e)
	}
}

// The chapter's example.
func TestExample(t *testing.T) {
	p := nodes.Parent{Enc: make([]byte, 32), Unmerged: []int{1}}
	want := append(append([]byte{32}, make([]byte, 32)...), 0, 4, 0, 0, 0, 1)
	b, e := nodes.PutParent(p)
	checkPut(t, p, b, e, want)
	if got, e := nodes.GetParent(want); e != api.OK || !sameParent(got, p) {
		t.Errorf("%v, error %d", got, e)
	}
}

// The numbers of the Sources.
func TestSources(t *testing.T) {
	if nodes.Offered != 1 || nodes.Updated != 2 || nodes.Committed != 3 {
		t.Error(nodes.Offered, nodes.Updated, nodes.Committed)
	}
}

// P1302: leaves that may be.
func TestPutLeaf(t *testing.T) {
	for _, l := range leaves() {
		b, e := nodes.PutLeaf(l)
		checkPut(t, l, b, e, slowLeaf(l))
	}
}

// P1302: leaves that may not be.
func TestPutLeafRefused(t *testing.T) {
	for _, l := range badLeaves() {
		b, e := nodes.PutLeaf(l)
		checkNotPut(t, l, b, e)
	}
}

// P1302: Parents that may be.
func TestPutParent(t *testing.T) {
	for _, p := range parents() {
		b, e := nodes.PutParent(p)
		checkPut(t, p, b, e, slowParent(p))
	}
}

// P1302: Parents that may not be.
func TestPutParentRefused(t *testing.T) {
	for _, p := range badParents() {
		b, e := nodes.PutParent(p)
		checkNotPut(t, p, b, e)
	}
}

// P1302: Packages that may be.
func TestPutPackage(t *testing.T) {
	for _, p := range packages() {
		b, e := nodes.PutPackage(p)
		checkPut(t, p, b, e, slowPackage(p))
	}
}

// P1302: Packages that may not be.
func TestPutPackageRefused(t *testing.T) {
	for _, p := range badPackages() {
		b, e := nodes.PutPackage(p)
		checkNotPut(t, p, b, e)
	}
}
