package labels_test

import (
	"bytes"
	"slices"
	"testing"

	"synod/api"
	"synod/labels"
)

// call: each of the calls, of a label and five lists: a key, an enc (or ikm), a content, a text (or what is sealed), a signature. An answer is its lists and its error.
type call func(label string, r row) ([][]byte, api.Errno)

type row [5][]byte

func calls() map[string]call {
	return map[string]call{
		"Expand": func(label string, r row) ([][]byte, api.Errno) {
			b, e := labels.Expand(r[0], label, r[2], len(r[3]))
			return [][]byte{b}, e
		},
		"Derive": func(label string, r row) ([][]byte, api.Errno) {
			return [][]byte{labels.Derive(r[0], label)}, api.OK
		},
		"Sign": func(label string, r row) ([][]byte, api.Errno) {
			b, e := labels.Sign(r[0], label, r[2])
			return [][]byte{b}, e
		},
		"Verify": func(label string, r row) ([][]byte, api.Errno) {
			return nil, labels.Verify(r[0], label, r[2], r[4])
		},
		"Seal": func(label string, r row) ([][]byte, api.Errno) {
			enc, b, e := labels.Seal(r[0], r[1], label, r[2], r[3])
			return [][]byte{enc, b}, e
		},
		"Open": func(label string, r row) ([][]byte, api.Errno) {
			b, e := labels.Open(r[0], label, r[2], r[1], r[3])
			return [][]byte{b}, e
		},
		"Ref": func(label string, r row) ([][]byte, api.Errno) {
			return [][]byte{labels.Ref(label, r[2])}, api.OK
		},
	}
}

// rows: for each call, and the label "what for", what it answers and what it refuses.
func rows(t *testing.T) []row {
	t.Helper()
	secret, public := keyPair(1)
	seed := sample(1, 32)
	over := make([]byte, api.MaxBytes)
	out := []row{
		{},
		{secret, public},
		{secret[:31], public, nil, sample(1, 20)},
		{secret, public[:31], nil, sample(1, 20)},
		{make([]byte, 32), make([]byte, 32), nil, sample(1, 20), make([]byte, 64)},
		{secret, public, over, sample(1, 20), make([]byte, 64)},
		{public, nil, over[:most], sample(1, 20)},
		{public, sample(2, 9), nil, over},
	}
	for _, n := range []int{0, 1, 16, 40} {
		content, text := sample(3, n), sample(4, n)
		l := sealed(t, 1, sample(5, n), pair{label, content}, text)
		out = append(out, row{secret, l.enc, content, l.b}, row{public, sample(5, n), content, text}, row{slowPublic(seed), nil, content, nil, slowSign(seed, label, content)})
	}
	return out
}

const label = "what for"

func same(a, b [][]byte) bool { return slices.EqualFunc(a, b, bytes.Equal) }

func cloned(lists [][]byte) [][]byte {
	var out [][]byte
	for _, b := range lists {
		out = append(out, bytes.Clone(b))
	}
	return out
}

func (r row) clone() row { return row(cloned(r[:])) }

// spoil: b and the room behind it.
func spoil(b []byte) {
	b = b[:cap(b)]
	for i := range b {
		b[i] ^= 255
	}
}

// Of each call some row is answered, and (but of Derive and Ref) some refused: else the tests below would look at nothing.
func TestRows(t *testing.T) {
	for name, call := range calls() {
		count := map[bool]int{}
		for _, r := range rows(t) {
			_, e := call(label, r)
			count[e == api.OK]++
		}
		if count[true] == 0 || count[false] == 0 && name != "Derive" && name != "Ref" {
			t.Errorf("%s: %v", name, count)
		}
	}
}

// P1501: no call changes its arguments or the room behind them, nor does that room have weight; refused ones too.
func TestArgumentsAreNotChanged(t *testing.T) {
	for name, call := range calls() {
		for i, r := range rows(t) {
			want, wantE := call(label, r)
			var lists, wholes row
			for j, b := range r {
				wholes[j] = append(bytes.Clone(b), sample(int64(j), 100)...)
				lists[j] = wholes[j][:len(b)]
			}
			before := wholes.clone()
			got, e := call(label, lists)
			if !same(wholes[:], before[:]) {
				t.Errorf("%s of row %d: an argument is changed", name, i)
			}
			if !same(got, want) || e != wantE {
				t.Errorf("%s of row %d: the room behind has weight: %x, %x", name, i, got, want)
			}
		}
	}
}

// P1501: all arguments parts of one memory that overlap.
func TestArgumentsInOneMemory(t *testing.T) {
	whole := sample(7, 150)
	before := bytes.Clone(whole)
	for from := range 30 {
		r := row{whole[5:37], whole[from : from+32], whole[from+3 : from+43], whole[20:60], whole[from : from+64]}
		for name, call := range calls() {
			got, e := call(label, r)
			if !bytes.Equal(whole, before) {
				t.Fatalf("%s changes its arguments", name)
			}
			if want, wantE := call(label, r.clone()); !same(got, want) || e != wantE {
				t.Errorf("%s from %d: %x, not %x", name, from, got, want)
			}
		}
	}
}

// P1501: what is answered is new memory, the room behind it too, and no two lists of an answer share any; the same again.
func TestAnswersAreNewMemory(t *testing.T) {
	for name, call := range calls() {
		for i, r := range rows(t) {
			before := r.clone()
			two, _ := call(label, r)
			want := cloned(two)
			one, _ := call(label, r)
			for j, b := range one {
				spoil(b)
				if !same(one[j+1:], want[j+1:]) {
					t.Fatalf("%s of row %d: two lists of an answer share memory", name, i)
				}
			}
			if !same(r[:], before[:]) {
				t.Fatalf("%s of row %d: an answer shares memory with an argument", name, i)
			}
			if again, _ := call(label, r); !same(two, want) || !same(again, want) {
				t.Fatalf("%s of row %d: two answers share memory", name, i)
			}
		}
	}
}

// P1501: pure functions: what is handed in is not kept, and no call has weight for another one.
func TestNothingIsKept(t *testing.T) {
	for name, call := range calls() {
		for i, r := range rows(t) {
			mine := r.clone()
			got, e := call(label, mine)
			want := cloned(got)
			for _, b := range mine {
				spoil(b)
			}
			for _, other := range calls() {
				other("another", mine)
				other("", row{})
			}
			if !same(got, want) {
				t.Fatalf("%s of row %d: an answer has changed", name, i)
			}
			if again, e2 := call(label, r); !same(again, want) || e2 != e {
				t.Fatalf("%s of row %d: another answer", name, i)
			}
		}
	}
}

// P1501: nil and empty mean the same.
func TestNilAndEmpty(t *testing.T) {
	orElse := func(r row, empty []byte) row {
		for i, b := range r {
			if len(b) == 0 {
				r[i] = empty
			}
		}
		return r
	}
	for name, call := range calls() {
		for i, r := range rows(t) {
			one, e1 := call(label, orElse(r, nil))
			two, e2 := call(label, orElse(r, []byte{}))
			if !same(one, two) || e1 != e2 {
				t.Errorf("%s of row %d: %x, %x", name, i, one, two)
			}
		}
	}
}
