package hpke_test

import (
	"bytes"
	"slices"
	"testing"

	"synod/api"
	"synod/hpke"
)

// call: each of the calls, of five lists: a key, an enc (or ikm, or shared), info, more, and a text; those of a context by a new one. An answer is its lists and its error.
type call func(key, enc, info, more, text []byte) ([][]byte, api.Errno)

func calls() map[string]call {
	return map[string]call{
		"Derive": func(_, enc, _, _, _ []byte) ([][]byte, api.Errno) {
			secret, public := hpke.Derive(enc)
			return [][]byte{secret, public}, api.OK
		},
		"Encap": func(key, enc, _, _, _ []byte) ([][]byte, api.Errno) {
			shared, told, e := hpke.Encap(key, enc)
			return [][]byte{shared, told}, e
		},
		"Decap": func(key, enc, _, _, _ []byte) ([][]byte, api.Errno) {
			shared, e := hpke.Decap(key, enc)
			return [][]byte{shared}, e
		},
		"SealTo": func(key, enc, info, more, text []byte) ([][]byte, api.Errno) {
			told, b, e := hpke.SealTo(key, enc, info, more, text)
			return [][]byte{told, b}, e
		},
		"OpenBy": func(key, enc, info, more, text []byte) ([][]byte, api.Errno) {
			b, e := hpke.OpenBy(key, enc, info, more, text)
			return [][]byte{b}, e
		},
		"Seal":   byNew((*hpke.Context).Seal),
		"Open":   byNew((*hpke.Context).Open),
		"Export": byNew(func(c *hpke.Context, more, text []byte) ([]byte, api.Errno) { return c.Export(more, len(text)) }),
	}
}

// byNew: twice by a new context of key and info; both answers, and the second's error.
func byNew(step func(c *hpke.Context, more, text []byte) ([]byte, api.Errno)) call {
	return func(key, _, info, more, text []byte) ([][]byte, api.Errno) {
		c, e := hpke.New(key, info)
		if e != api.OK {
			return nil, e
		}
		one, _ := step(c, more, text)
		two, e := step(c, more, text)
		return [][]byte{one, two}, e
	}
}

// rows: for each call what it answers and what it refuses.
func rows(t *testing.T) [][5][]byte {
	secret, public := derived(t, []byte("rows"))
	over := make([]byte, api.MaxBytes+1)
	out := [][5][]byte{
		{},
		{secret, public},
		{secret[:31], public, nil, nil, sample(1, 20)},
		{secret, public[:31], nil, nil, sample(1, 20)},
		{make([]byte, 32), make([]byte, 32), nil, nil, sample(1, 20)},
		{secret, public, over, nil, sample(1, 20)},
		{secret, public, nil, over, sample(1, 20)},
		{public, sample(2, 9), nil, nil, over},
	}
	for _, n := range []int{0, 1, 16, 40} {
		info, more, text := sample(3, n), sample(4, 2*n), sample(5, n)
		l := sealTo(t, secret, public, sample(6, n), info, more, text)
		b := seal(t, context(t, secret, info), more, text)
		out = append(out, [5][]byte{secret, l.enc, info, more, l.b}, [5][]byte{secret, l.enc, info, more, b}, [5][]byte{public, sample(6, n), info, more, text})
	}
	return out
}

func (c call) of(r [5][]byte) ([][]byte, api.Errno) { return c(r[0], r[1], r[2], r[3], r[4]) }

func same(a, b [][]byte) bool { return slices.EqualFunc(a, b, bytes.Equal) }

func cloned(lists [][]byte) [][]byte {
	var out [][]byte
	for _, b := range lists {
		out = append(out, bytes.Clone(b))
	}
	return out
}

// P1001: no call changes its arguments or the room behind them, nor does that room have weight; refused ones too.
func TestArgumentsAreNotChanged(t *testing.T) {
	for name, call := range calls() {
		for i, r := range rows(t) {
			want, wantE := call.of(r)
			var lists, wholes [5][]byte
			for i, b := range r {
				wholes[i] = append(bytes.Clone(b), sample(int64(i), 100)...)
				lists[i] = wholes[i][:len(b)]
			}
			before := cloned(wholes[:])
			got, e := call.of(lists)
			if !same(wholes[:], before) {
				t.Errorf("%s of row %d: an argument is changed", name, i)
			}
			if !same(got, want) || e != wantE {
				t.Errorf("%s of row %d: the room behind has weight: %x, %x", name, i, got, want)
			}
		}
	}
}

// P1001: all arguments parts of one memory that overlap.
func TestArgumentsInOneMemory(t *testing.T) {
	whole := sample(7, 100)
	before := bytes.Clone(whole)
	for from := range 30 {
		r := [5][]byte{whole[5:37], whole[from : from+32], whole[from+3 : from+43], whole[20:60], whole[from+10 : from+40]}
		for name, call := range calls() {
			got, e := call.of(r)
			if !bytes.Equal(whole, before) {
				t.Fatalf("%s changes its arguments", name)
			}
			if want, wantE := call.of([5][]byte(cloned(r[:]))); !same(got, want) || e != wantE {
				t.Errorf("%s from %d: %x, not %x", name, from, got, want)
			}
		}
	}
}

func spoil(b []byte) {
	b = b[:cap(b)]
	for i := range b {
		b[i] ^= 255
	}
}

// P1001: what is answered is new memory, the room behind it too, and no two lists of an answer share any; the same again.
func TestAnswersAreNewMemory(t *testing.T) {
	for name, call := range calls() {
		for i, r := range rows(t) {
			before := cloned(r[:])
			two, _ := call.of(r)
			want := cloned(two)
			one, _ := call.of(r)
			for j, b := range one {
				spoil(b)
				if !same(one[j+1:], want[j+1:]) {
					t.Fatalf("%s of row %d: two lists of an answer share memory", name, i)
				}
			}
			if !same(r[:], before) {
				t.Fatalf("%s of row %d: an answer shares memory with an argument", name, i)
			}
			if again, _ := call.of(r); !same(two, want) || !same(again, want) {
				t.Fatalf("%s of row %d: two answers share memory", name, i)
			}
		}
	}
}

// P1001: pure functions: what is handed in is not kept, and no call has weight for another one.
func TestNothingIsKept(t *testing.T) {
	for name, call := range calls() {
		for i, r := range rows(t) {
			mine := [5][]byte(cloned(r[:]))
			got, e := call.of(mine)
			want := cloned(got)
			for _, b := range mine {
				spoil(b)
			}
			for _, other := range calls() {
				other.of(mine)
				other.of([5][]byte{})
			}
			if !same(got, want) {
				t.Fatalf("%s of row %d: an answer has changed", name, i)
			}
			if again, e2 := call.of(r); !same(again, want) || e2 != e {
				t.Fatalf("%s of row %d: another answer", name, i)
			}
		}
	}
}

// P1001: a context keeps nothing of what New, Seal, Open and Export were given or have answered.
func TestContextsKeepNothing(t *testing.T) {
	shared, info := sample(1, 32), sample(2, 40)
	sender, receiver := context(t, shared, info), context(t, shared, info)
	want := slowNew(t, shared, info)
	spoil(shared)
	spoil(info)
	for i := range 5 {
		more, text := sample(int64(i), 9), sample(int64(i), 30)
		b := seal(t, sender, more, text)
		if !bytes.Equal(b, want.seal(t, more, text)) {
			t.Fatalf("message %d: %x", i, b)
		}
		opened, e := receiver.Open(more, b)
		if e != api.OK || !bytes.Equal(opened, text) {
			t.Fatalf("message %d: %x, error %d", i, opened, e)
		}
		key := exported(t, sender, more, 32)
		if !bytes.Equal(key, want.export(t, more, 32)) {
			t.Fatalf("key %d: %x", i, key)
		}
		for _, list := range [][]byte{more, text, b, opened, key} {
			spoil(list)
		}
	}
}

// P1001: two contexts of the same keys have nothing to do with each other, nor do those of other keys.
func TestContextsApart(t *testing.T) {
	shared, other := sample(1, 32), sample(2, 32)
	one, two, three := context(t, shared, nil), context(t, shared, nil), context(t, other, nil)
	first := seal(t, one, nil, []byte("a"))
	seal(t, three, nil, []byte("a"))
	seal(t, one, nil, []byte("a"))
	if got := seal(t, two, nil, []byte("a")); !bytes.Equal(got, first) {
		t.Errorf("%x, not %x", got, first)
	}
	checkShut(t, three, nil, first, api.ErrOpen)
}

// P1001: nil and empty mean the same.
func TestNilAndEmpty(t *testing.T) {
	orElse := func(r [5][]byte, empty []byte) [5][]byte {
		for i, b := range r {
			if len(b) == 0 {
				r[i] = empty
			}
		}
		return r
	}
	for name, call := range calls() {
		for i, r := range rows(t) {
			one, e1 := call.of(orElse(r, nil))
			two, e2 := call.of(orElse(r, []byte{}))
			if !same(one, two) || e1 != e2 {
				t.Errorf("%s of row %d: %x, %x", name, i, one, two)
			}
		}
	}
}
