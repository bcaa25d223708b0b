package tree_test

import (
	"bytes"
	"math/rand"
	"slices"
	"testing"

	"synod/api"
	"synod/tree"
)

// checkAlways: P1407, P1408 and P1409 of a tree that members with keys of their own have made.
func checkAlways(p *pair) {
	p.Helper()
	if e := p.x.Valid(); e != api.OK {
		p.Fatalf("error %d", e)
	}
	checkCovered(p)
	if len(p.x.Members()) == 0 {
		return
	}
	if y, e := tree.Decode(p.x.Encode()); e != api.OK || !bytes.Equal(y.Hash(), p.x.Hash()) || y.Leaves() != p.x.Leaves() {
		p.Fatalf("error %d, or another Hash", e)
	}
}

// checkCovered: each member is at or below some place of the root's resolution.
func checkCovered(p *pair) {
	p.Helper()
	resolution := p.x.Resolution(p.x.Leaves() - 1)
	for _, i := range p.x.Members() {
		if !slices.ContainsFunc(resolution, func(x int) bool { return x < len(p.s.parents) && p.s.under(x, i) }) {
			p.Fatalf("leaf %d is not below any of %v", i, resolution)
		}
	}
}

// P1407, P1408, P1409: whatever members come, go, update and commit.
func TestAlways(t *testing.T) {
	for seed := range int64(12) {
		random := rand.New(rand.NewSource(100 + seed))
		p := newPair(t)
		for round := range 150 {
			grow := 5
			if round%60 > 40 {
				grow = 1
			}
			p.live(random, 1, grow)
			checkAlways(p)
		}
		p.check()
	}
}

// P1407: large trees, full ones, and their way down.
func TestAlwaysLarge(t *testing.T) {
	random := rand.New(rand.NewSource(11))
	p := newPair(t)
	for range api.MaxLeaves {
		p.join()
		if random.Intn(3) == 0 {
			p.commit(p.s.members()[random.Intn(len(p.s.members()))])
		}
		checkAlways(p)
	}
	p.check()
	for len(p.s.members()) > 0 {
		p.live(random, 1, 1)
		checkAlways(p)
	}
	p.check()
}

// P1407: who comes to a blank leaf by SetPath and PutLeaf.
func TestAlwaysAtBlank(t *testing.T) {
	for _, p := range grown(t, 12, 60) {
		for i, l := range p.s.leaves {
			if l == nil {
				p.commit(i)
				checkAlways(p)
			}
		}
		p.check()
	}
}

// P1408: trees of any kind, which need not be Valid.
func TestCoveredOfStrange(t *testing.T) {
	random := rand.New(rand.NewSource(13))
	for range 300 {
		checkCovered(read(t, strange(random)))
	}
}

// P1409: one tree that two ways led to, one of them through a wider one.
func TestSameBytesSameHash(t *testing.T) {
	short, long := tree.New(), filled(t, 40).x
	for i := range 3 {
		short.Add(leaf(i))
		long.Set(i, leaf(i))
	}
	for i := 39; i >= 3; i-- {
		long.Remove(i)
	}
	for _, i := range []int{2, 0} {
		keys := [][]byte{key(60 + i), key(70 + i)}[:len(short.Filtered(i))]
		for _, x := range []*tree.Tree{short, long} {
			h, e := x.SetPath(i, keys)
			if f := x.PutLeaf(i, committed(80+i, h)); e != api.OK || f != api.OK {
				t.Fatalf("errors %d, %d", e, f)
			}
		}
	}
	if !bytes.Equal(short.Encode(), long.Encode()) || !bytes.Equal(short.Hash(), long.Hash()) || short.Leaves() != long.Leaves() {
		t.Error("not the same")
	}
}

// P1409: all trees of a long life, by their bytes: no two with the same ones have unlike hashes, and no two with unlike ones the same.
func TestHashByBytes(t *testing.T) {
	hashes := map[string]string{}
	bytesOf := map[string]string{}
	random := rand.New(rand.NewSource(14))
	for range 20 {
		x := tree.New()
		for range 60 {
			i := random.Intn(x.Leaves())
			switch random.Intn(4) {
			case 0, 1:
				x.Add(leaf(random.Intn(3)))
			case 2:
				x.Remove(i)
			case 3:
				x.SetPath(i, slices.Repeat([][]byte{key(1)}, len(x.Filtered(i))))
			}
			b, h := string(x.Encode()), string(x.Hash())
			if old, ok := hashes[b]; ok && old != h {
				t.Fatal("the same bytes, another Hash")
			}
			if old, ok := bytesOf[h]; ok && old != b {
				t.Fatal("the same Hash, other bytes")
			}
			hashes[b], bytesOf[h] = h, b
		}
	}
	if len(hashes) < 200 {
		t.Errorf("only %d trees", len(hashes))
	}
}
