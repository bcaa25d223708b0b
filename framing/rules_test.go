package framing_test

import (
	"bytes"
	"math"
	"reflect"
	"slices"
	"sync"
	"testing"

	"synod/api"
	"synod/framing"
)

// row: what calls are handed, each taking from it what it takes.
type row struct {
	c                                                                    framing.Content
	s                                                                    framing.Signed
	x                                                                    framing.Sealed
	b, seed, public, member, context, confirm, sender, key, nonce, guard []byte
	wire, leaf, gen, pad                                                 int
}

// answer: lists, numbers and an error.
type answer struct {
	lists   [][]byte
	numbers []int
	e       api.Errno
}

func bytesOf(b []byte, e api.Errno) answer { return answer{[][]byte{b}, nil, e} }

func signedOf(s framing.Signed, e api.Errno) answer {
	c := s.Content
	return answer{told(signedLists(&s)), []int{c.Epoch, c.From, c.Leaf, c.Kind, s.Wire}, e}
}

func (a answer) same(b answer) bool {
	return same(a.lists, b.lists) && slices.Equal(a.numbers, b.numbers) && a.e == b.e
}

func (a answer) clone() answer {
	a.lists = cloned(a.lists)
	return a
}

func cloned(lists [][]byte) [][]byte {
	var out [][]byte
	for _, b := range lists {
		out = append(out, bytes.Clone(b))
	}
	return out
}

func calls() map[string]func(r row) answer {
	return map[string]func(r row) answer{
		"PutContent": func(r row) answer { return bytesOf(framing.PutContent(r.c)) },
		"Text":       func(r row) answer { return bytesOf(framing.Text(r.c, r.wire, r.context)) },
		"Sign": func(r row) answer {
			return signedOf(framing.Sign(r.seed, r.c, r.wire, r.context, r.confirm))
		},
		"Verify":    func(r row) answer { return answer{e: framing.Verify(r.public, r.s, r.context)} },
		"Input":     func(r row) answer { return bytesOf(framing.Input(r.s)) },
		"PutPublic": func(r row) answer { return bytesOf(framing.PutPublic(r.s, r.member, r.context)) },
		"GetPublic": func(r row) answer {
			s, tag, e := framing.GetPublic(r.b)
			a := signedOf(s, e)
			a.lists = append(a.lists, tag)
			return a
		},
		"Tag": func(r row) answer { return bytesOf(framing.Tag(r.s, r.member, r.context)) },
		"PutPrivate": func(r row) answer {
			return bytesOf(framing.PutPrivate(r.s, r.sender, r.key, r.nonce, r.gen, r.guard, r.pad))
		},
		"GetPrivate": func(r row) answer {
			x, e := framing.GetPrivate(r.b)
			return answer{told(sealedLists(&x)), []int{x.Epoch, x.Kind}, e}
		},
		"Who": func(r row) answer {
			leaf, gen, guard, e := framing.Who(r.x, r.sender)
			return answer{[][]byte{guard}, []int{leaf, gen}, e}
		},
		"Open": func(r row) answer { return signedOf(framing.Open(r.x, r.leaf, r.key, r.nonce, r.guard)) },
	}
}

// rowOf: of a message that may be, as it is written, sealed and signed by the words.
func rowOf(t testing.TB, s framing.Signed, gen, pad int) row {
	t.Helper()
	seed, context, l := sample(1, 32), sample(2, 100), letterOf(s, gen, pad)
	s = signedBy(seed, s, context)
	l.inner = letterOf(s, gen, pad).inner
	r := row{
		c: s.Content, s: s, x: l.sealed(t), b: slowPublic(s, tagOf(s)),
		seed: seed, public: slowPublicKey(seed), member: sample(3, 32), context: context, confirm: s.Confirm,
		sender: l.secret, key: l.key, nonce: l.nonce, guard: l.guard,
		wire: s.Wire, leaf: s.Content.Leaf, gen: gen, pad: pad,
	}
	if s.Wire == framing.Private {
		r.b = slowPrivate(r.x)
	}
	return r
}

// rows: for each call what it answers and what it refuses.
func rows(t testing.TB) []row {
	t.Helper()
	out := []row{{}}
	for i, s := range baseSigneds() {
		r := rowOf(t, s, i, 100*i)
		out = append(out, r)
		out = append(out, with(r, func(r *row) { r.context, r.x.Body, r.b = make([]byte, mostContext+1), sample(1, 40), r.b[:60] }))
		out = append(out, with(r, func(r *row) {
			r.seed, r.public, r.sender, r.key, r.b = r.seed[1:], nil, nil, sample(1, 16), append(r.b, 0)
		}))
		out = append(out, with(r, func(r *row) { r.c.Leaf, r.s.Wire, r.x.Kind, r.leaf, r.b = -1, 3, 0, 64, nil }))
	}
	bare := framing.Signed{Content: framing.Content{From: framing.Member, Kind: framing.Words}, Wire: framing.Private, Signature: make([]byte, 64)}
	long := with(content0(), func(s *framing.Signed) { s.Content.Body = sample(1, mostBody) })
	return append(out, rowOf(t, bare, 0, 0), rowOf(t, long, mostGen, 1000), rowOf(t, signed(joining(), framing.Public), 0, 0))
}

// lists: all of a row.
func (r *row) lists() []*[]byte {
	own := []*[]byte{&r.b, &r.seed, &r.public, &r.member, &r.context, &r.confirm, &r.sender, &r.key, &r.nonce, &r.guard}
	return slices.Concat(contentLists(&r.c), signedLists(&r.s), sealedLists(&r.x), own)
}

// mapped: a row of new memory, each list being what change makes of it.
func (r row) mapped(change func(b []byte) []byte) row {
	for _, list := range r.lists() {
		*list = change(*list)
	}
	return r
}

func (r row) clone() row { return r.mapped(bytes.Clone) }

func (r row) same(o row) bool { return same(told(r.lists()), told(o.lists())) }

// spoil: b and the room behind it.
func spoil(b []byte) {
	b = b[:cap(b)]
	for i := range b {
		b[i] ^= 255
	}
}

// Of each call some rows are answered and some refused: else the tests below would look at nothing.
func TestRows(t *testing.T) {
	for name, call := range calls() {
		count := map[bool]int{}
		for _, r := range rows(t) {
			count[call(r).e == api.OK]++
		}
		if count[true] < 2 || count[false] < 2 {
			t.Errorf("%s: %v", name, count)
		}
	}
}

// P1801: with an error nothing else is answered.
func TestNothingBesideAnError(t *testing.T) {
	for name, call := range calls() {
		for i, r := range rows(t) {
			got := call(r)
			some := slices.ContainsFunc(got.lists, func(b []byte) bool { return len(b) != 0 }) || slices.ContainsFunc(got.numbers, func(n int) bool { return n != 0 })
			if got.e != api.OK && some {
				t.Errorf("%s of row %d: %x, %d, error %d", name, i, got.lists, got.numbers, got.e)
			}
		}
	}
}

// P1801: no call changes its arguments or the room behind them, nor does that room have weight; refused ones too.
func TestArgumentsAreNotChanged(t *testing.T) {
	for name, call := range calls() {
		for i, r := range rows(t) {
			want := call(r.clone())
			var wholes [][]byte
			mine := r.mapped(func(b []byte) []byte {
				whole := append(bytes.Clone(b), sample(int64(len(wholes)), 100)...)
				wholes = append(wholes, whole)
				return whole[:len(b)]
			})
			before := cloned(wholes)
			if got := call(mine); !got.same(want) {
				t.Errorf("%s of row %d: the room behind has weight", name, i)
			}
			if !same(wholes, before) || !mine.same(r) {
				t.Errorf("%s of row %d: an argument is changed", name, i)
			}
		}
	}
}

// P1801: all arguments parts of one memory, one and the same.
func TestArgumentsInOneMemory(t *testing.T) {
	for name, call := range calls() {
		for i, r := range rows(t) {
			var whole []byte
			for _, list := range r.lists() {
				whole = append(whole, *list...)
			}
			at := 0
			shared := r.mapped(func(b []byte) []byte {
				at += len(b)
				return whole[at-len(b) : at]
			})
			before := bytes.Clone(whole)
			if got := call(shared); !got.same(call(r.clone())) {
				t.Errorf("%s of row %d: another answer", name, i)
			}
			if !bytes.Equal(whole, before) {
				t.Errorf("%s of row %d: an argument is changed", name, i)
			}
		}
	}
}

// P1801: what is answered is new memory, the room behind it too, and no two lists of an answer share any; the same again.
func TestAnswersAreNewMemory(t *testing.T) {
	for name, call := range calls() {
		for i, r := range rows(t) {
			r = r.clone()
			before := r.clone()
			two := call(r)
			want := two.clone()
			one := call(r)
			for j, b := range one.lists {
				spoil(b)
				if !same(one.lists[j+1:], want.lists[j+1:]) {
					t.Fatalf("%s of row %d: two lists of an answer share memory", name, i)
				}
			}
			if !r.same(before) {
				t.Fatalf("%s of row %d: an answer shares memory with an argument", name, i)
			}
			if again := call(r); !two.same(want) || !again.same(want) {
				t.Fatalf("%s of row %d: two answers share memory", name, i)
			}
		}
	}
}

// P1801: pure functions: what is handed in is not kept, and no call has weight for another one.
func TestNothingIsKept(t *testing.T) {
	for name, call := range calls() {
		for i, r := range rows(t) {
			mine := r.clone()
			got := call(mine)
			want := got.clone()
			for _, list := range mine.lists() {
				spoil(*list)
			}
			for _, other := range calls() {
				other(mine)
				other(row{})
			}
			if !got.same(want) {
				t.Fatalf("%s of row %d: an answer has changed", name, i)
			}
			if again := call(r); !again.same(want) {
				t.Fatalf("%s of row %d: another answer", name, i)
			}
		}
	}
}

// P1801: nil and empty mean the same.
func TestNilAndEmpty(t *testing.T) {
	orElse := func(r row, empty []byte) row {
		return r.mapped(func(b []byte) []byte {
			if len(b) == 0 {
				return empty
			}
			return b
		})
	}
	for name, call := range calls() {
		for i, r := range rows(t) {
			if a, b := call(orElse(r, nil)), call(orElse(r, []byte{})); !a.same(b) {
				t.Errorf("%s of row %d: other answers", name, i)
			}
		}
	}
}

// What is read has nil where there is nothing, as a message that was never filled.
func TestNoneIsNil(t *testing.T) {
	for _, kind := range []int{framing.Words, framing.Proposal} {
		s := framing.Signed{Content: framing.Content{From: framing.Member, Kind: kind}, Wire: framing.Private, Signature: sample(4, 64)}
		l := letterOf(s, 0, 0)
		x, e := framing.GetPrivate(slowPrivate(l.sealed(t)))
		if want := l.sealed(t); e != api.OK || !reflect.DeepEqual(x, want) {
			t.Errorf("%#v, not %#v, error %d", x, want, e)
		}
		if got, e := framing.Open(x, 0, l.key, l.nonce, l.guard); e != api.OK || !reflect.DeepEqual(got, s) {
			t.Errorf("%#v, not %#v, error %d", got, s, e)
		}
		if kind == framing.Words {
			continue
		}
		s.Wire = framing.Public
		if got, _, e := framing.GetPublic(slowPublic(s, tagOf(s))); e != api.OK || !reflect.DeepEqual(got, s) {
			t.Errorf("%#v, not %#v, error %d", got, s, e)
		}
	}
}

// P1801: all calls end and none panics, at arguments of all kinds in all places.
func TestOddArguments(t *testing.T) {
	numbers := []int{0, 1, -1, 3, 64, mostGen, 1 << 32, math.MinInt, math.MaxInt}
	sizes := []int{0, 1, 4, 12, 16, 32, 64, 300, api.MaxBytes + 20}
	for i := range 400 {
		next := func(k int) int { return int(sample(int64(1000*i+k), 1)[0]) }
		number := func(k int) int { return numbers[next(k)%len(numbers)] }
		r := rows(t)[1+i%8]
		r.c.Epoch, r.c.From, r.c.Leaf, r.c.Kind = number(1), number(2), number(3), number(4)
		r.s.Content, r.s.Wire, r.x.Epoch, r.x.Kind = r.c, number(5), number(6), number(7)
		r.wire, r.leaf, r.gen, r.pad = number(8), number(9), number(10), number(11)
		k := 20
		r = r.mapped(func(b []byte) []byte {
			k++
			if next(k)%3 == 0 {
				return b
			}
			return sample(int64(k), sizes[next(k)%len(sizes)])
		})
		for name, call := range calls() {
			if a, b := call(r), call(r); !a.same(b) {
				t.Errorf("%s: other answers", name)
			}
		}
	}
}

// P1801: calls at the same time.
func TestAtTheSameTime(t *testing.T) {
	all := rows(t)
	want := map[string][]answer{}
	for name, call := range calls() {
		for _, r := range all {
			want[name] = append(want[name], call(r))
		}
	}
	var wait sync.WaitGroup
	for range 4 {
		wait.Go(func() {
			for name, call := range calls() {
				for i, r := range all {
					if got := call(r); !got.same(want[name][i]) {
						t.Errorf("%s of row %d: another answer", name, i)
					}
				}
			}
		})
	}
	wait.Wait()
}
