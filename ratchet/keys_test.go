package ratchet_test

import (
	"bytes"
	"crypto/hkdf"
	"crypto/sha256"
	"math"
	"slices"
	"testing"

	"synod/api"
	"synod/ratchet"
)

// The chapter's examples.
func TestExample(t *testing.T) {
	r, e := ratchet.New(make([]byte, 32), 4)
	if e != api.OK {
		t.Fatal(e)
	}
	if gen, key, nonce, e := r.Next(0, true); gen != 0 || len(key) != 16 || len(nonce) != 12 || e != api.OK {
		t.Error(gen, key, nonce, e)
	}
	if key, nonce, e := r.Key(0, true, 0); e != api.ErrUsed || len(key) != 0 || len(nonce) != 0 {
		t.Error(key, nonce, e)
	}
	if e := r.Use(0, true, 3); e != api.OK {
		t.Error(e)
	}
	if kept := r.Kept(0, true); !slices.Equal(kept, []int{1, 2}) {
		t.Error(kept)
	}
}

// The chapter's words, label by label with all bytes written out: leaf 1 of 2, of texts, generation 1.
func TestKeysOfBytesWrittenOut(t *testing.T) {
	secret := sample(1, 32)
	r, _ := ratchet.New(secret, 2)
	expand := func(secret []byte, info string, n int) []byte {
		out, err := hkdf.Expand(sha256.New, secret, info, n)
		if err != nil {
			t.Fatal(err)
		}
		return out
	}
	leaf := expand(secret, "\x00\x20\x0cMLS 1.0 tree\x05right", 32)
	zero := expand(leaf, "\x00\x20\x13MLS 1.0 application\x00", 32)
	one := expand(zero, "\x00\x20\x0eMLS 1.0 secret\x04\x00\x00\x00\x00", 32)
	wantKey := expand(one, "\x00\x10\x0bMLS 1.0 key\x04\x00\x00\x00\x01", 16)
	wantNonce := expand(one, "\x00\x0c\x0dMLS 1.0 nonce\x04\x00\x00\x00\x01", 12)
	if key, nonce, e := r.Key(1, true, 1); e != api.OK || !bytes.Equal(key, wantKey) || !bytes.Equal(nonce, wantNonce) {
		t.Errorf("%x, %x, not %x, %x, error %d", key, nonce, wantKey, wantNonce, e)
	}
	leaf = expand(secret, "\x00\x20\x0cMLS 1.0 tree\x04left", 32)
	zero = expand(leaf, "\x00\x20\x11MLS 1.0 handshake\x00", 32)
	wantKey = expand(zero, "\x00\x10\x0bMLS 1.0 key\x04\x00\x00\x00\x00", 16)
	if key, _, e := r.Key(0, false, 0); e != api.OK || !bytes.Equal(key, wantKey) {
		t.Errorf("%x, not %x, error %d", key, wantKey, e)
	}
}

// P1702: New of all numbers of leaves that there may be: all ratchets at 0.
func TestNew(t *testing.T) {
	for _, n := range sizes {
		p := newPair(t, int64(n), n)
		for _, l := range linesOf(n) {
			p.looks(l)
			p.key(l, 0)
		}
	}
	for _, secret := range [][]byte{make([]byte, 32), bytes.Repeat([]byte{255}, 32)} {
		r, e := ratchet.New(secret, 4)
		if e != api.OK {
			t.Fatal(e)
		}
		p := &pair{newWords(t, secret, 4), r}
		p.all()
	}
}

// P1702: secrets of other lengths, numbers of leaves that may not be, and both.
func TestNewRefused(t *testing.T) {
	check := func(secret []byte, leaves int) {
		t.Helper()
		if r, e := ratchet.New(secret, leaves); e != api.ErrArg || r != nil {
			t.Errorf("New of %d bytes and %d leaves: %v, error %d", len(secret), leaves, r, e)
		}
	}
	bad := []int{0, -1, -2, -64, 3, 5, 6, 7, 12, 31, 33, 63, 65, 96, 127, 128, 256, 1 << 31, 1 << 32, 1 << 62, math.MinInt, math.MinInt + 1, math.MaxInt - 1, math.MaxInt}
	for _, leaves := range bad {
		check(sample(1, 32), leaves)
		check(nil, leaves)
	}
	check(nil, 4)
	check([]byte{}, 4)
	for n := range 200 {
		if n != 32 {
			check(sample(1, n), 1)
			check(sample(1, n), 4)
			check(sample(1, n), 3)
		}
	}
	check(make([]byte, api.MaxBytes), 4)
}

// P1703: Key of every leaf of every tree, against the words.
func TestKeysOfAllLeaves(t *testing.T) {
	for _, n := range sizes {
		p := newPair(t, int64(100+n), n)
		for _, l := range linesOf(n) {
			for _, gen := range []int{0, 1, 2, 31, 32, 33} {
				p.key(l, gen)
			}
		}
	}
}

// P1703: Next of every leaf of every tree, against the words; in orders that ask for near leaves and far ones.
func TestNextOfAllLeaves(t *testing.T) {
	for _, n := range sizes {
		for _, step := range []int{1, 5, n - 1, n + n/2 + 1} {
			p := newPair(t, int64(200+n), n)
			for i := range 2 * n {
				p.next(line{i * step % n, i%3 != 0})
			}
			p.all()
		}
	}
}

// P1703: no two ratchets, and no two generations, have a key or a nonce in common.
func TestKeysAreUnlike(t *testing.T) {
	seen := map[string]bool{}
	for _, n := range sizes {
		p := newPair(t, 7, n)
		for _, l := range linesOf(n) {
			if n > 1 && l.leaf%5 != 0 {
				continue
			}
			for gen := range 20 {
				key, nonce, e := p.r.Key(l.leaf, l.text, gen)
				if e != api.OK || seen[string(key)] || seen[string(nonce)] || bytes.HasPrefix(key, nonce) {
					t.Errorf("%v of %d leaves, generation %d: %x, %x, error %d", l, n, gen, key, nonce, e)
				}
				seen[string(key)], seen[string(nonce)] = true, true
			}
		}
	}
}

// P1703: another secret, other keys.
func TestKeysHangOnTheSecret(t *testing.T) {
	secret := sample(1, 32)
	seen := map[string]int{}
	for bit := -1; bit < 256; bit++ {
		b := bytes.Clone(secret)
		if bit >= 0 {
			b[bit/8] ^= 1 << (bit % 8)
		}
		r, _ := ratchet.New(b, 2)
		key, _, e := r.Key(1, false, 1)
		if other, ok := seen[string(key)]; ok || e != api.OK {
			t.Errorf("bits %d and %d: %x, error %d", bit, other, key, e)
		}
		seen[string(key)] = bit
	}
}

// P1702: leaves that are not there: ErrArg, ahead of all else, whatever was used.
func TestNoLeaf(t *testing.T) {
	for _, n := range sizes {
		p := newPair(t, 3, n)
		p.next(line{0, true})
		p.use(line{n - 1, false}, 30)
		for _, leaf := range noLeaves(n) {
			for _, text := range []bool{true, false} {
				p.unchanged("a leaf that is not there", func() { checkNone(t, p.r, leaf, text) })
			}
		}
	}
}

// P1703: generations that there are not: ErrRange, ahead of all else but the leaf.
func TestRange(t *testing.T) {
	for _, used := range [][]int{nil, {0}, {32}, {5, 3, 36}} {
		p := newPair(t, 4, 4)
		l := line{2, true}
		for _, gen := range used {
			p.use(l, gen)
		}
		for _, gen := range badGens {
			if key, nonce, e := p.r.Key(2, true, gen); e != api.ErrRange || len(key) != 0 || len(nonce) != 0 {
				t.Errorf("Key of %d: %x, %x, error %d", gen, key, nonce, e)
			}
			p.unchanged("a generation that there is not", func() {
				if e := p.r.Use(2, true, gen); e != api.ErrRange {
					t.Errorf("Use of %d: error %d", gen, e)
				}
			})
		}
		p.all()
	}
}

// P1703: too far ahead: ErrFar from the first one behind Sure and MaxAhead on, up to the last that there is.
func TestFar(t *testing.T) {
	for _, first := range []int{-1, 0, 1, 31, 32} {
		p := newPair(t, 5, 2)
		l := line{1, false}
		if first >= 0 {
			p.use(l, first)
		}
		sure := first + 1
		for _, gen := range []int{sure + 33, sure + 34, sure + 64, 255, 256, 65536, 1<<31 - 1, 1 << 31, most - 2, most - 1} {
			if key, nonce, e := p.r.Key(1, false, gen); e != api.ErrFar || len(key) != 0 || len(nonce) != 0 {
				t.Errorf("Sure %d, Key of %d: %x, %x, error %d", sure, gen, key, nonce, e)
			}
			p.unchanged("a generation that is too far ahead", func() {
				if e := p.r.Use(1, false, gen); e != api.ErrFar {
					t.Errorf("Sure %d, Use of %d: error %d", sure, gen, e)
				}
			})
		}
		if _, _, e := p.r.Key(1, false, sure+32); e != api.OK {
			t.Errorf("Sure %d, Key of %d: error %d", sure, sure+32, e)
		}
		p.use(l, sure+32)
		p.looks(l)
	}
}

// P1703, P1704: what one Use goes past, from each Sure, at all distances; what falls behind the window is not Kept.
func TestKept(t *testing.T) {
	l := line{3, true}
	for first := range 34 {
		for ahead := range 33 {
			p := newPair(t, 6, 4)
			if first > 0 {
				p.use(l, first-1)
			}
			p.use(l, first+ahead)
			p.looks(l)
			p.key(l, first-1)
			p.key(l, first+ahead)
		}
	}
}

// P1703: the window written out.
func TestWindowWrittenOut(t *testing.T) {
	r, _ := ratchet.New(sample(1, 32), 2)
	check := func(gen int, want api.Errno, sure int, kept ...int) {
		t.Helper()
		if e := r.Use(0, true, gen); e != want {
			t.Errorf("Use of %d: error %d, not %d", gen, e, want)
		}
		if n, e := r.Sure(0, true); n != sure || e != api.OK {
			t.Errorf("Use of %d: Sure %d, not %d, error %d", gen, n, sure, e)
		}
		if got := r.Kept(0, true); !slices.Equal(got, kept) {
			t.Errorf("Use of %d: Kept %v, not %v", gen, got, kept)
		}
	}
	check(33, api.ErrFar, 0)
	check(2, api.OK, 3, 0, 1)
	check(36, api.ErrFar, 3, 0, 1)
	check(33, api.OK, 34, 3, 4, 5, 6, 7, 8, 9, 10, 11, 12, 13, 14, 15, 16, 17, 18, 19, 20, 21, 22, 23, 24, 25, 26, 27, 28, 29, 30, 31, 32)
	check(0, api.ErrUsed, 34, 3, 4, 5, 6, 7, 8, 9, 10, 11, 12, 13, 14, 15, 16, 17, 18, 19, 20, 21, 22, 23, 24, 25, 26, 27, 28, 29, 30, 31, 32)
	check(1, api.ErrUsed, 34, 3, 4, 5, 6, 7, 8, 9, 10, 11, 12, 13, 14, 15, 16, 17, 18, 19, 20, 21, 22, 23, 24, 25, 26, 27, 28, 29, 30, 31, 32)
	check(60, api.OK, 61, append([]int{29, 30, 31, 32}, r34to59()...)...)
	check(30, api.OK, 61, append([]int{29, 31, 32}, r34to59()...)...)
	check(30, api.ErrUsed, 61, append([]int{29, 31, 32}, r34to59()...)...)
	check(61, api.OK, 62, append([]int{31, 32}, r34to59()...)...)
	check(94, api.OK, 95, 63, 64, 65, 66, 67, 68, 69, 70, 71, 72, 73, 74, 75, 76, 77, 78, 79, 80, 81, 82, 83, 84, 85, 86, 87, 88, 89, 90, 91, 92, 93)
	check(62, api.ErrUsed, 95, 63, 64, 65, 66, 67, 68, 69, 70, 71, 72, 73, 74, 75, 76, 77, 78, 79, 80, 81, 82, 83, 84, 85, 86, 87, 88, 89, 90, 91, 92, 93)
}

func r34to59() []int {
	var out []int
	for g := 34; g < 60; g++ {
		out = append(out, g)
	}
	return out
}

// P1703: so many that a generation passes one byte, and two.
func TestManyGenerations(t *testing.T) {
	p := newPair(t, 8, 2)
	l := line{0, true}
	for range 600 {
		p.next(l)
	}
	for gen := 632; gen < 1<<16-33; gen += 33 {
		p.use(l, gen)
	}
	for range 40 {
		p.next(l)
	}
	for range 3 {
		p.use(l, p.sures[l]+31)
		p.whole(l)
	}
	if p.sures[l] < 1<<16 {
		t.Error(p.sures[l])
	}
}
