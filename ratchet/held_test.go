package ratchet

import (
	"bytes"
	"slices"
	"testing"

	"synod/api"
	"synod/index"
	"synod/labels"
)

// at: Ratchets of 2 leaves, of which one ratchet of leaf 1 has come to a generation (which no test has the time to go to), with that secret.
func at(t *testing.T, gen int, secret []byte) *Ratchets {
	t.Helper()
	r, e := New(make([]byte, seedSize), 2)
	if e != api.OK {
		t.Fatal(e)
	}
	r.open(1)
	r.ratchets[line{1, true}] = ratchet{gen, seed(secret)}
	return r
}

func expand(t *testing.T, secret []byte, label string, gen, n int) []byte {
	t.Helper()
	b, e := labels.Expand(secret, label, []byte{byte(gen >> 24), byte(gen >> 16), byte(gen >> 8), byte(gen)}, n)
	if e != api.OK {
		t.Fatal(e)
	}
	return b
}

func checkSure(t *testing.T, r *Ratchets, want int) {
	t.Helper()
	if n, e := r.Sure(1, true); n != want || e != api.OK {
		t.Errorf("Sure: %d, not %d, error %d", n, want, e)
	}
}

// P1703: generations that take three bytes, and four: each one's keys, and the next secret.
func TestGreatGenerations(t *testing.T) {
	for _, gen := range []int{1<<16 - 1, 1 << 16, 1<<24 - 1, 1 << 24, 0x01020304, 1<<31 - 1, 1 << 31, maxGen - 40} {
		secret := labels.Derive(nil, "a secret")
		r := at(t, gen, secret)
		for g := gen; g < gen+33; g++ {
			key, nonce, e := r.Key(1, true, g)
			if e != api.OK || !bytes.Equal(key, expand(t, secret, "key", g, 16)) || !bytes.Equal(nonce, expand(t, secret, "nonce", g, 12)) {
				t.Errorf("%d: %x, %x, error %d", g, key, nonce, e)
			}
			secret = expand(t, secret, "secret", g, 32)
		}
		if e := r.Use(1, true, gen+33); e != api.ErrFar {
			t.Errorf("%d: error %d", gen+33, e)
		}
		e := r.Use(1, true, gen+32)
		if got := r.ratchets[line{1, true}].secret; e != api.OK || !bytes.Equal(got[:], secret) {
			t.Errorf("%d: the next secret %x, not %x, error %d", gen+32, got, secret, e)
		}
		checkSure(t, r, gen+33)
	}
}

func checkOver(t *testing.T, r *Ratchets) {
	t.Helper()
	before, _ := r.Sure(1, true)
	if gen, key, nonce, e := r.Next(1, true); gen != 0 || len(key) != 0 || len(nonce) != 0 || e != api.ErrOver {
		t.Errorf("Next at %d: %d, %x, %x, error %d", before, gen, key, nonce, e)
	}
	checkSure(t, r, before)
}

// P1703: Next at the end: ErrOver from Sure 2^32 - 1 on; Use may still use that one, once.
func TestOver(t *testing.T) {
	secret := labels.Derive(nil, "another secret")
	r := at(t, maxGen-2, secret)
	gen, key, nonce, e := r.Next(1, true)
	if gen != maxGen-2 || e != api.OK || !bytes.Equal(key, expand(t, secret, "key", gen, 16)) || !bytes.Equal(nonce, expand(t, secret, "nonce", gen, 12)) {
		t.Errorf("%d, %x, %x, error %d", gen, key, nonce, e)
	}
	checkOver(t, r)
	secret = expand(t, secret, "secret", maxGen-2, 32)
	if key, _, e := r.Key(1, true, maxGen-1); e != api.OK || !bytes.Equal(key, expand(t, secret, "key", maxGen-1, 16)) {
		t.Errorf("%x, error %d", key, e)
	}
	if e := r.Use(1, true, maxGen-1); e != api.OK {
		t.Error(e)
	}
	checkSure(t, r, maxGen)
	checkOver(t, r)
	for gen, want := range map[int]api.Errno{maxGen - 2: api.ErrUsed, maxGen - 1: api.ErrUsed, maxGen: api.ErrRange, maxGen + 1: api.ErrRange, maxGen + 40: api.ErrRange} {
		if e := r.Use(1, true, gen); e != want {
			t.Errorf("Use of %d: error %d, not %d", gen, e, want)
		}
	}
	if gen, _, _, e := r.Next(1, false); gen != 0 || e != api.OK {
		t.Errorf("the other ratchet: %d, error %d", gen, e)
	}
}

// P1703: those gone past on the way to the last one are Kept, and used once.
func TestKeptAtTheEnd(t *testing.T) {
	r := at(t, maxGen-33, labels.Derive(nil, "a third secret"))
	if e := r.Use(1, true, maxGen-1); e != api.OK {
		t.Fatal(e)
	}
	var want []int
	for g := maxGen - 32; g < maxGen-1; g++ {
		want = append(want, g)
	}
	if kept := r.Kept(1, true); !slices.Equal(kept, want) {
		t.Errorf("%v, not %v", kept, want)
	}
	for _, g := range want {
		if e, f := r.Use(1, true, g), r.Use(1, true, g); e != api.OK || f != api.ErrUsed {
			t.Errorf("%d: errors %d and %d", g, e, f)
		}
	}
	if kept := r.Kept(1, true); len(kept) != 0 {
		t.Error(kept)
	}
}

// What is held is what may still be asked for: a seed at or above each leaf without ratchets, one alone, and nothing that a used key could be made of.
func TestHeld(t *testing.T) {
	for _, n := range []int{1, 2, 4, 8, 16, 32, 64} {
		r, _ := New(make([]byte, seedSize), n)
		opened := map[int]bool{}
		for i := range n {
			leaf := i * 5 % n
			r.Use(leaf, i%2 == 0, i%33)
			opened[leaf] = true
			checkSeeds(t, r, opened)
		}
		if len(r.seeds) != 0 || len(r.ratchets) != 2*n {
			t.Errorf("%d leaves: %d seeds, %d ratchets", n, len(r.seeds), len(r.ratchets))
		}
	}
}

func checkSeeds(t *testing.T, r *Ratchets, opened map[int]bool) {
	t.Helper()
	for i := range r.leaves {
		held := 0
		for _, x := range append(index.Path(i, r.leaves), 2*i) {
			if _, ok := r.seeds[x]; ok {
				held++
			}
		}
		if opened[i] && held != 0 || !opened[i] && held != 1 {
			t.Fatalf("leaf %d of %d: %d seeds", i, r.leaves, held)
		}
	}
	if len(r.ratchets) != 2*len(opened) {
		t.Fatalf("%d ratchets of %d leaves", len(r.ratchets), len(opened))
	}
}

// What is kept is what Kept tells, and no more: else it would grow with each message.
func TestKeptIsAll(t *testing.T) {
	r, _ := New(make([]byte, seedSize), 4)
	for i := range 500 {
		sure, _ := r.Sure(i%4, i%3 == 0)
		r.Use(i%4, i%3 == 0, sure+i*13%33)
		if i%7 == 0 {
			r.Use(i%4, i%3 == 0, sure-3)
		}
		told := 0
		for leaf := range 4 {
			told += len(r.Kept(leaf, true)) + len(r.Kept(leaf, false))
		}
		if told != len(r.kept) {
			t.Fatalf("%d are kept, and %d told", len(r.kept), told)
		}
	}
}
