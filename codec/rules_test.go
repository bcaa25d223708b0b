package codec_test

import (
	"bytes"
	"math"
	"slices"
	"testing"

	"synod/api"
	"synod/codec"
)

func spoil(b []byte) {
	b = b[:cap(b)]
	for i := range b {
		b[i] ^= 255
	}
}

// readers: that New did not make.
func readers() []*codec.Reader {
	var zero codec.Reader
	return []*codec.Reader{nil, {}, new(codec.Reader), &zero}
}

// P1101: a nil Reader, and one that New did not make: 0, nothing, ErrArg, and nothing becomes of it.
func TestReadersThatNobodyMade(t *testing.T) {
	for i, r := range readers() {
		for range 2 {
			checkState(t, r, 0, api.ErrArg, api.ErrArg)
			for _, s := range []step{{number, 1}, {number, 8}, {number, 3}, {number, math.MinInt}, {length, 0}, {vector, 0}, {take, 0}, {take, 1}, {take, -1}, {take, math.MaxInt}} {
				if n, b := s.of(r); n != 0 || len(b) != 0 {
					t.Errorf("reader %d: %v: %d, %x", i, s, n, b)
				}
				checkState(t, r, 0, api.ErrArg, api.ErrArg)
			}
		}
	}
}

// P1101: writing changes neither its arguments nor the room behind them, and that room has no weight.
func TestWritingChangesNothing(t *testing.T) {
	for _, n := range append(slices.Clone(edges), api.MaxBytes+1) {
		b := sample(1, n)
		whole := append(bytes.Clone(b), sample(2, 100)...)
		before := bytes.Clone(whole)
		one, e1 := codec.Vector(whole[:n])
		two, e2 := codec.Vectors(whole[:n], whole[:n/2], whole[n/2:n])
		want1, w1 := codec.Vector(b)
		want2, w2 := codec.Vectors(b, b[:n/2], b[n/2:])
		if !bytes.Equal(whole, before) {
			t.Errorf("%d bytes: an argument is changed", n)
		}
		if !bytes.Equal(one, want1) || !bytes.Equal(two, want2) || e1 != w1 || e2 != w2 {
			t.Errorf("%d bytes: the room behind has weight", n)
		}
	}
}

// P1101: the list of vectors stays as it is, too, with the room behind it.
func TestListIsNotChanged(t *testing.T) {
	over := make([]byte, api.MaxBytes+1)
	lists := [][]byte{[]byte("a"), nil, []byte("bc"), over, []byte("d"), []byte("e")}
	before := slices.Clone(lists)
	for n := range lists {
		codec.Vectors(lists[:n]...)
		for i := range lists {
			if !bytes.Equal(lists[i], before[i]) || (lists[i] == nil) != (before[i] == nil) {
				t.Fatalf("vectors of %d: list %d is changed", n, i)
			}
		}
	}
}

// P1101: what is written is new memory, the room behind it too.
func TestWrittenIsNewMemory(t *testing.T) {
	for _, n := range []int{0, 1, 7, 8, 63, 64, 1000} {
		b := sample(1, n)
		before := bytes.Clone(b)
		write := func() [][]byte {
			v, _ := codec.Vector(b)
			all, _ := codec.Vectors(b, b)
			one, _ := codec.Vectors(b)
			none, _ := codec.Vectors()
			length, _ := codec.Length(n)
			number, _ := codec.Number(n, 8)
			return [][]byte{v, all, one, none, length, number}
		}
		first, second := write(), write()
		want := [][]byte{}
		for _, b := range second {
			want = append(want, bytes.Clone(b))
		}
		for i, x := range first {
			spoil(x)
			if !slices.EqualFunc(first[i+1:], want[i+1:], bytes.Equal) {
				t.Fatalf("%d bytes: two answers share memory", n)
			}
		}
		if !bytes.Equal(b, before) {
			t.Fatalf("%d bytes: an answer shares memory with an argument", n)
		}
		if !slices.EqualFunc(second, want, bytes.Equal) || !slices.EqualFunc(write(), want, bytes.Equal) {
			t.Fatalf("%d bytes: two answers share memory", n)
		}
	}
}

// P1101: a Reader keeps nothing of what New was given: spoilt behind it, it has no weight, nor is it changed.
func TestReaderKeepsNothing(t *testing.T) {
	b := slices.Concat(slowNumber(5, 4), slowLength(1000), slowVector([]byte("text")), sample(1, 9))
	whole := append(bytes.Clone(b), sample(2, 50)...)
	before := bytes.Clone(whole)
	r := codec.New(whole[:len(b)])
	steps := []step{{number, 4}, {length, 0}, {vector, 0}, {take, 9}, {take, 1}}
	for _, s := range steps {
		s.of(codec.New(whole[:len(b)]))
	}
	if !bytes.Equal(whole, before) {
		t.Fatal("an argument is changed")
	}
	spoil(whole)
	want := &slowReader{b: b}
	for _, s := range steps {
		n, got := s.of(r)
		wantN, wantB := s.slow(want)
		if n != wantN || !bytes.Equal(got, wantB) {
			t.Fatalf("%v: %d, %x, not %d, %x", s, n, got, wantN, wantB)
		}
		checkState(t, r, want.left(), want.err, want.end())
	}
}

// P1101: what is read is new memory: spoilt with the room behind it, it has no weight for what is read behind it.
func TestReadIsNewMemory(t *testing.T) {
	text := sample(1, 100)
	b := slices.Concat(slowVector(nil), slowVector(text), slowVector(text), text, text, slowVector(nil), text)
	before := bytes.Clone(b)
	r := codec.New(b)
	check := func(got []byte, n int) {
		t.Helper()
		if !bytes.Equal(got, text[:n]) {
			t.Fatalf("%x, not %d bytes of the text", got, n)
		}
		spoil(got)
	}
	check(r.Vector(), 0)
	check(r.Vector(), 100)
	check(r.Vector(), 100)
	check(r.Take(100), 100)
	check(r.Take(0), 0)
	check(r.Take(100), 100)
	check(r.Vector(), 0)
	check(r.Take(50), 50)
	spoil(r.Take(0))
	if got := r.Take(50); !bytes.Equal(got, text[50:]) || r.End() != api.OK {
		t.Errorf("%x, error %d", got, r.End())
	}
	if !bytes.Equal(b, before) {
		t.Error("an answer shares memory with an argument")
	}
}

// P1101: what was read stays as it was, while the Reader goes on.
func TestReadIsLeftAlone(t *testing.T) {
	b := slices.Concat(slowVector([]byte("one")), []byte("two"), slowVector([]byte("three")))
	r := codec.New(b)
	one, two := r.Vector(), r.Take(3)
	r.Vector()
	r.Take(1)
	if string(one) != "one" || string(two) != "two" {
		t.Errorf("%q, %q", one, two)
	}
}

// P1101: two Readers of the same bytes have nothing to do with each other.
func TestReadersApart(t *testing.T) {
	b := []byte{1, 2, 3, 4}
	one, two := codec.New(b), codec.New(b)
	if one.Number(1) != 1 || one.Number(3) != 0 || one.Err() != api.ErrArg {
		t.Error(one.Err())
	}
	checkState(t, two, 4, api.OK, api.ErrForm)
	if two.Number(2) != 0x0102 || two.Number(2) != 0x0304 {
		t.Error("other numbers")
	}
	checkState(t, two, 0, api.OK, api.OK)
	checkState(t, one, 3, api.ErrArg, api.ErrArg)
}

// P1101: nil and empty mean the same.
func TestNilAndEmpty(t *testing.T) {
	one, e1 := codec.Vector(nil)
	two, e2 := codec.Vector([]byte{})
	if !bytes.Equal(one, two) || e1 != e2 {
		t.Errorf("%x, %x, errors %d, %d", one, two, e1, e2)
	}
	one, e1 = codec.Vectors(nil, nil)
	two, e2 = codec.Vectors([]byte{}, []byte{})
	if !bytes.Equal(one, two) || e1 != e2 {
		t.Errorf("%x, %x, errors %d, %d", one, two, e1, e2)
	}
	one, e1 = codec.Vectors([][]byte(nil)...)
	two, e2 = codec.Vectors([][]byte{}...)
	if !bytes.Equal(one, two) || e1 != e2 {
		t.Errorf("%x, %x, errors %d, %d", one, two, e1, e2)
	}
}
