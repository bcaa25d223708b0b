package schedule_test

import (
	"bytes"
	"slices"
	"testing"

	"synod/api"
	"synod/schedule"
)

// row: what calls are handed, each taking from it what it takes.
type row struct {
	a, b  []byte
	c     schedule.Context
	s     schedule.Secrets
	l     []schedule.Psk
	label string
	n     int
}

// answer: lists, a number and an error.
type answer struct {
	lists [][]byte
	n     int
	e     api.Errno
}

func (a answer) same(b answer) bool { return same(a.lists, b.lists) && a.n == b.n && a.e == b.e }

func (a answer) clone() answer {
	a.lists = cloned(a.lists)
	return a
}

func cloned(lists [][]byte) [][]byte {
	var out [][]byte
	for _, b := range lists {
		out = append(out, bytes.Clone(b))
	}
	return out
}

func calls() map[string]func(r row) answer {
	return map[string]func(r row) answer{
		"PutContext": func(r row) answer {
			b, e := schedule.PutContext(r.c)
			return answer{[][]byte{b}, 0, e}
		},
		"GetContext": func(r row) answer {
			c, e := schedule.GetContext(r.a)
			return answer{told(contextLists(&c)), c.Epoch, e}
		},
		"PskSecret": func(r row) answer {
			b, e := schedule.PskSecret(r.l)
			return answer{[][]byte{b}, 0, e}
		},
		"Joiner": func(r row) answer {
			b, e := schedule.Joiner(r.a, r.b, r.c)
			return answer{[][]byte{b}, 0, e}
		},
		"Epoch": func(r row) answer {
			s, e := schedule.Epoch(r.a, r.b, r.c)
			return answer{told(secretLists(&s)), 0, e}
		},
		"Welcome": func(r row) answer {
			key, nonce := schedule.Welcome(r.a, r.b)
			return answer{[][]byte{key, nonce}, 0, api.OK}
		},
		"Tag":       func(r row) answer { return answer{[][]byte{schedule.Tag(r.s, r.a)}, 0, api.OK} },
		"Confirmed": func(r row) answer { return answer{[][]byte{schedule.Confirmed(r.a, r.b)}, 0, api.OK} },
		"Interim":   func(r row) answer { return answer{[][]byte{schedule.Interim(r.a, r.b)}, 0, api.OK} },
		"Export": func(r row) answer {
			b, e := schedule.Export(r.s, r.label, r.a, r.n)
			return answer{[][]byte{b}, 0, e}
		},
	}
}

// rows: for each call what it answers and what it refuses.
func rows(t *testing.T) []row {
	t.Helper()
	c := context(7, 3, 32, 200)
	s := slowEpoch(t, sample(1, 32), sample(2, 32), c)
	return []row{
		{},
		{a: sample(1, 32), b: sample(2, 32), c: c, s: s, l: psks(3), label: "what for", n: 40},
		{a: slowContext(c), b: sample(2, 255), c: context(api.MaxEpoch-1, 255, 255, 255), s: s, l: psks(100), label: "", n: 0},
		{a: slowContext(schedule.Context{}), b: sample(2, 256), c: context(7, 256, 0, 0), s: s, l: psks(101), n: 8161},
		{a: sample(1, 100), b: sample(2, 1), c: context(-1, 3, 32, 32), s: s, l: []schedule.Psk{psk(3, 256, 4)}, n: -1},
		{a: slowContext(c)[1:], b: nil, c: context(7, 0, 0, 256), l: []schedule.Psk{psk(3, 2, maxKey+1), {}}, label: string(make([]byte, maxLabel+1)), n: 32},
	}
}

// lists: all of a row.
func (r *row) lists() []*[]byte {
	out := slices.Concat([]*[]byte{&r.a, &r.b}, contextLists(&r.c), secretLists(&r.s))
	for i := range r.l {
		out = append(out, pskLists(&r.l[i])...)
	}
	return out
}

// mapped: a row of new memory, each list being what change makes of it.
func (r row) mapped(change func(b []byte) []byte) row {
	r.l = slices.Clone(r.l)
	for _, list := range r.lists() {
		*list = change(*list)
	}
	return r
}

func (r row) clone() row { return r.mapped(bytes.Clone) }

func (r row) same(o row) bool {
	return len(r.l) == len(o.l) && r.c.Epoch == o.c.Epoch && same(told(r.lists()), told(o.lists()))
}

// spoil: b and the room behind it.
func spoil(b []byte) {
	b = b[:cap(b)]
	for i := range b {
		b[i] ^= 255
	}
}

// Of each call some row is answered, and of those with an error some refused: else the tests below would look at nothing.
func TestRows(t *testing.T) {
	for name, call := range calls() {
		count := map[bool]int{}
		for _, r := range rows(t) {
			count[call(r).e == api.OK]++
		}
		never := slices.Contains([]string{"Welcome", "Tag", "Confirmed", "Interim"}, name)
		if count[true] == 0 || (count[false] == 0) != never {
			t.Errorf("%s: %v", name, count)
		}
	}
}

// P1601: with an error nothing else is answered.
func TestNothingBesideAnError(t *testing.T) {
	for name, call := range calls() {
		for i, r := range rows(t) {
			got := call(r)
			if got.e != api.OK && (got.n != 0 || slices.ContainsFunc(got.lists, func(b []byte) bool { return len(b) != 0 })) {
				t.Errorf("%s of row %d: %x, %d, error %d", name, i, got.lists, got.n, got.e)
			}
		}
	}
}

// P1601: no call changes its arguments or the room behind them, nor does that room have weight; refused ones too.
func TestArgumentsAreNotChanged(t *testing.T) {
	for name, call := range calls() {
		for i, r := range rows(t) {
			want := call(r.clone())
			var wholes [][]byte
			mine := r.mapped(func(b []byte) []byte {
				whole := append(bytes.Clone(b), sample(int64(len(wholes)), 100)...)
				wholes = append(wholes, whole)
				return whole[:len(b)]
			})
			behind := schedule.Psk{ID: []byte("behind")}
			mine.l = append(mine.l, behind)
			all := mine.l
			mine.l = all[:len(all)-1]
			before := cloned(wholes)
			if got := call(mine); !got.same(want) {
				t.Errorf("%s of row %d: the room behind has weight: %x, %x", name, i, got, want)
			}
			if last := all[len(all)-1]; !same(wholes, before) || !mine.same(r) || !bytes.Equal(last.ID, behind.ID) || len(last.Nonce) != 0 || len(last.Key) != 0 {
				t.Errorf("%s of row %d: an argument is changed", name, i)
			}
		}
	}
}

// P1601: all arguments parts of one memory that overlap.
func TestArgumentsInOneMemory(t *testing.T) {
	whole := sample(7, 150)
	before := bytes.Clone(whole)
	for from := range 20 {
		at := from
		shared := row{l: make([]schedule.Psk, 3), c: schedule.Context{Epoch: 5}, label: "what for", n: 40}.mapped(func([]byte) []byte {
			at += 3
			return whole[at : at+32]
		})
		for name, call := range calls() {
			got := call(shared)
			if !bytes.Equal(whole, before) {
				t.Fatalf("%s changes its arguments", name)
			}
			if want := call(shared.clone()); !got.same(want) {
				t.Errorf("%s from %d: %x, not %x", name, from, got, want)
			}
		}
	}
}

// P1601: what is answered is new memory, the room behind it too, and no two lists of an answer share any; the same again.
func TestAnswersAreNewMemory(t *testing.T) {
	for name, call := range calls() {
		for i, r := range rows(t) {
			before := r.clone()
			two := call(r)
			want := two.clone()
			one := call(r)
			for j, b := range one.lists {
				spoil(b)
				if !same(one.lists[j+1:], want.lists[j+1:]) {
					t.Fatalf("%s of row %d: two lists of an answer share memory", name, i)
				}
			}
			if !r.same(before) {
				t.Fatalf("%s of row %d: an answer shares memory with an argument", name, i)
			}
			if again := call(r); !two.same(want) || !again.same(want) {
				t.Fatalf("%s of row %d: two answers share memory", name, i)
			}
		}
	}
}

// P1601: pure functions: what is handed in is not kept, and no call has weight for another one.
func TestNothingIsKept(t *testing.T) {
	for name, call := range calls() {
		for i, r := range rows(t) {
			mine := r.clone()
			got := call(mine)
			want := got.clone()
			for _, list := range mine.lists() {
				spoil(*list)
			}
			for _, other := range calls() {
				other(mine)
				other(row{})
			}
			if !got.same(want) {
				t.Fatalf("%s of row %d: an answer has changed", name, i)
			}
			if again := call(r); !again.same(want) {
				t.Fatalf("%s of row %d: another answer", name, i)
			}
		}
	}
}

// P1601: nil and empty mean the same.
func TestNilAndEmpty(t *testing.T) {
	orElse := func(r row, empty []byte) row {
		return r.mapped(func(b []byte) []byte {
			if len(b) == 0 {
				return empty
			}
			return b
		})
	}
	for name, call := range calls() {
		for i, r := range rows(t) {
			one, two := orElse(r, nil), orElse(r, []byte{})
			if len(r.l) == 0 {
				one.l, two.l = nil, []schedule.Psk{}
			}
			if a, b := call(one), call(two); !a.same(b) {
				t.Errorf("%s of row %d: %x, %x", name, i, a, b)
			}
		}
	}
}
