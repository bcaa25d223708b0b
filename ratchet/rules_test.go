package ratchet_test

import (
	"bytes"
	"slices"
	"sync"
	"testing"

	"synod/api"
	"synod/ratchet"
)

// checkNone: every call of a leaf that is not there, or of nothing, is ErrArg, and nothing beside it.
func checkNone(t *testing.T, r *ratchet.Ratchets, leaf int, text bool) {
	t.Helper()
	if gen, key, nonce, e := r.Next(leaf, text); gen != 0 || len(key) != 0 || len(nonce) != 0 || e != api.ErrArg {
		t.Errorf("Next of %d: %d, %x, %x, error %d", leaf, gen, key, nonce, e)
	}
	for _, gen := range append([]int{0, 1, 32, 33, most - 1}, badGens...) {
		if key, nonce, e := r.Key(leaf, text, gen); len(key) != 0 || len(nonce) != 0 || e != api.ErrArg {
			t.Errorf("Key of %d, %d: %x, %x, error %d", leaf, gen, key, nonce, e)
		}
		if e := r.Use(leaf, text, gen); e != api.ErrArg {
			t.Errorf("Use of %d, %d: error %d", leaf, gen, e)
		}
	}
	if n, e := r.Sure(leaf, text); n != 0 || e != api.ErrArg {
		t.Errorf("Sure of %d: %d, error %d", leaf, n, e)
	}
	if kept := r.Kept(leaf, text); len(kept) != 0 {
		t.Errorf("Kept of %d: %v", leaf, kept)
	}
}

// P1701: every call of nil Ratchets, and of such that New did not make.
func TestNoRatchets(t *testing.T) {
	for _, r := range []*ratchet.Ratchets{nil, {}, new(ratchet.Ratchets)} {
		if c := r.Copy(); c != nil {
			t.Errorf("Copy: %v", c)
		}
		for _, leaf := range append([]int{0, 1, 2, 3}, noLeaves(4)...) {
			checkNone(t, r, leaf, true)
			checkNone(t, r, leaf, false)
		}
	}
}

// spoil: b and the room behind it.
func spoil[T byte | int](b []T) {
	b = b[:cap(b)]
	for i := range b {
		b[i] ^= 85
	}
}

// P1701: the secret that is handed in is not changed, nor the room behind it, which has no weight; and it is not kept.
func TestHandedIn(t *testing.T) {
	for _, n := range sizes {
		secret := sample(1, 32)
		whole := append(bytes.Clone(secret), sample(2, 50)...)
		before := bytes.Clone(whole)
		r, e := ratchet.New(whole[:32], n)
		if e != api.OK {
			t.Fatal(e)
		}
		p := &pair{newWords(t, secret, n), r}
		p.next(line{n - 1, true})
		p.use(line{0, false}, 20)
		c := p.copy()
		c.all()
		if !bytes.Equal(whole, before) {
			t.Fatal("the secret is changed")
		}
		spoil(whole)
		p.all()
		c.all()
	}
}

// P1701: what is answered is new memory, with the room behind it: of generations that are kept, of those ahead, and of Next.
func TestAnswersAreNewMemory(t *testing.T) {
	for _, n := range sizes {
		p := newPair(t, 3, n)
		for _, l := range []line{{0, true}, {n - 1, false}} {
			p.use(l, 9)
			for gen := range 30 {
				want, wantNonce, e := p.r.Key(l.leaf, l.text, gen)
				key, nonce, _ := p.r.Key(l.leaf, l.text, gen)
				if gen != 9 && e != api.OK {
					t.Fatal(gen, e)
				}
				spoil(key)
				if !bytes.Equal(nonce, wantNonce) {
					t.Fatal("a key and a nonce share memory")
				}
				spoil(nonce)
				if again, againNonce, _ := p.r.Key(l.leaf, l.text, gen); !bytes.Equal(again, want) || !bytes.Equal(againNonce, wantNonce) {
					t.Fatal("two answers share memory")
				}
				spoil(p.r.Kept(l.leaf, l.text))
				p.key(l, gen)
				p.looks(l)
			}
			c := p.copy()
			_, key, nonce, _ := p.r.Next(l.leaf, l.text)
			p.words.use(l, 10)
			wantNonce := bytes.Clone(nonce)
			spoil(key)
			if !bytes.Equal(nonce, wantNonce) {
				t.Fatal("a key and a nonce share memory")
			}
			spoil(nonce)
			p.all()
			c.all()
		}
	}
}

// P1701: a Copy is one of its own: what one uses the other one has not.
func TestCopy(t *testing.T) {
	for _, n := range sizes {
		p := newPair(t, 4, n)
		c := p.copy()
		p.next(line{0, true})
		c.all()
		d := p.copy()
		p.use(line{0, true}, 20)
		p.use(line{n - 1, false}, 32)
		c.all()
		d.all()
		f := p.copy()
		f.use(line{0, true}, 7)
		f.next(line{n / 2, false})
		p.all()
		p.use(line{0, true}, 8)
		p.use(line{0, true}, 50)
		for _, one := range []*pair{c, d, f, p} {
			one.all()
		}
	}
}

// P1701: looks and refusals change nothing, not even what no call tells; of ratchets that used some, and of such that used none.
func TestNothingIsChanged(t *testing.T) {
	for _, n := range sizes {
		p := newPair(t, 5, n)
		for range 2 {
			for _, l := range []line{{0, true}, {0, false}, {n - 1, true}, {n / 2, false}} {
				p.unchanged("a look", func() { p.whole(l) })
				p.unchanged("a refusal", func() {
					for _, gen := range slices.Concat(badGens, []int{p.sures[l] + 33, most - 1}) {
						if e := p.r.Use(l.leaf, l.text, gen); e == api.OK {
							t.Errorf("Use of %d", gen)
						}
					}
				})
				p.unchanged("Copy", func() { p.r.Copy() })
			}
			p.use(line{0, true}, 5)
			p.use(line{n - 1, true}, 30)
		}
	}
}

// P1701: the same calls, the same answers: whatever else was called on other ones.
func TestTheSameAgain(t *testing.T) {
	told := func() [][]byte {
		var out [][]byte
		r, _ := ratchet.New(sample(6, 32), 16)
		for i := range 200 {
			other, _ := ratchet.New(sample(int64(i), 32), 2)
			other.Use(i%2, true, i%33)
			r.Use(i*7%16, i%3 == 0, i%40)
			_, key, nonce, _ := r.Next(i*5%16, i%2 == 0)
			more, _, _ := r.Key(i*3%16, true, i%50)
			out = append(out, key, nonce, more)
		}
		return out
	}
	if one, two := told(), told(); !slices.EqualFunc(one, two, bytes.Equal) {
		t.Error("other answers")
	}
}

// P1701: looks at one at the same time.
func TestLooksAtTheSameTime(t *testing.T) {
	p := newPair(t, 7, 8)
	p.use(line{3, true}, 20)
	want := make([][]byte, 0, 16)
	for _, l := range linesOf(8) {
		key, _ := p.slowKeys(l, 4)
		want = append(want, key)
	}
	var wait sync.WaitGroup
	for range 8 {
		wait.Go(func() {
			for i, l := range linesOf(8) {
				key, _, e := p.r.Key(l.leaf, l.text, 4)
				if e != api.OK || !bytes.Equal(key, want[i]) {
					t.Errorf("%v: %x, error %d", l, key, e)
				}
				p.r.Kept(l.leaf, l.text)
				p.r.Copy()
			}
		})
	}
	wait.Wait()
}
