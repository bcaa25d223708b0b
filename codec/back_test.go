package codec_test

import (
	"bytes"
	"math/rand"
	"slices"
	"testing"

	"synod/api"
	"synod/codec"
)

// all: the vectors that b is read as, to its end.
func all(b []byte) ([][]byte, api.Errno) {
	r := codec.New(b)
	var out [][]byte
	for r.Left() > 0 && r.Err() == api.OK {
		if v := r.Vector(); r.Err() == api.OK {
			out = append(out, v)
		}
	}
	return out, r.End()
}

// P1104: lists of vectors, there and back, and all of it.
func TestVectorsThereAndBack(t *testing.T) {
	random := rand.New(rand.NewSource(1))
	for i := range 2000 {
		lists := make([][]byte, random.Intn(6))
		for j := range lists {
			n := random.Intn(200)
			if i%20 == 0 {
				n = edges[random.Intn(len(edges))]
			}
			lists[j] = sample(int64(i), n)
		}
		b, e := codec.Vectors(lists...)
		if e != api.OK {
			t.Fatal(e)
		}
		got, e := all(b)
		if e != api.OK || !slices.EqualFunc(got, lists, bytes.Equal) {
			t.Fatalf("%d lists come back as %d, error %d", len(lists), len(got), e)
		}
	}
}

// P1104: numbers and lengths, there and back, and all of it.
func TestNumbersThereAndBack(t *testing.T) {
	random := rand.New(rand.NewSource(2))
	check := func(n, size int) {
		t.Helper()
		b, e := codec.Number(n, size)
		r := codec.New(b)
		if got := r.Number(size); e != api.OK || got != n || r.End() != api.OK {
			t.Fatalf("%d of %d bytes: %d, errors %d, %d", n, size, got, e, r.End())
		}
	}
	for _, size := range []int{1, 2, 4, 8} {
		most := greatest(size)
		check(0, size)
		check(most, size)
		for range 2000 {
			check(random.Intn(most), size)
		}
	}
	for i := range 70000 {
		n := i
		if i > 66000 {
			n = random.Intn(1 << 30)
		}
		b, e := codec.Length(n)
		r := codec.New(b)
		if got := r.Length(); e != api.OK || got != n || r.End() != api.OK {
			t.Fatalf("%d: %d, errors %d, %d", n, got, e, r.End())
		}
	}
}

// checkRewritten: what is read of b, if it is, is written as the bytes that were read.
func checkRewritten(t *testing.T, b []byte) {
	t.Helper()
	check := func(r *codec.Reader, again []byte, e api.Errno) {
		t.Helper()
		if r.Err() == api.OK && (e != api.OK || !bytes.Equal(again, b[:len(b)-r.Left()])) {
			t.Fatalf("%x: with %d left: written as %x, error %d", b, r.Left(), again, e)
		}
	}
	r := codec.New(b)
	again, e := codec.Vector(r.Vector())
	check(r, again, e)
	r = codec.New(b)
	again, e = codec.Length(r.Length())
	check(r, again, e)
	for _, size := range []int{1, 2, 4, 8} {
		r = codec.New(b)
		again, e = codec.Number(r.Number(size), size)
		check(r, again, e)
	}
	if lists, e := all(b); e == api.OK {
		if again, e := codec.Vectors(lists...); e != api.OK || !bytes.Equal(again, b) {
			t.Fatalf("%x: written as %x, error %d", b, again, e)
		}
	}
}

// P1104: what is read is written the same.
func TestReadAndWritten(t *testing.T) {
	for first := range 256 {
		for second := range 256 {
			checkRewritten(t, []byte{byte(first), byte(second)})
			checkRewritten(t, []byte{byte(first), byte(second), 0, 64, 0, 1, 2, 3, 4})
			checkRewritten(t, []byte{byte(first), 0, byte(second), 64, 0, 1, 2, 3, 4})
		}
	}
	random := rand.New(rand.NewSource(3))
	for range 50000 {
		b := make([]byte, random.Intn(30))
		for i := range b {
			b[i] = []byte{0, 1, 2, 3, 4, 5, 0x40, 0x41, 0x80, 0xbf, 0xc0, 255}[random.Intn(12)]
		}
		checkRewritten(t, b)
	}
}

// P1105: no two texts of few bytes are read as one list; there are such of each number of vectors.
func TestNoOtherWay(t *testing.T) {
	letters := []byte{0, 1, 2, 3, 0x40, 0x80, 0xc0}
	read := map[string]string{}
	texts := [][]byte{nil}
	for range 6 {
		var longer [][]byte
		for _, text := range texts {
			for _, x := range letters {
				longer = append(longer, append(bytes.Clone(text), x))
			}
		}
		for _, text := range longer {
			lists, e := all(text)
			if e != api.OK {
				continue
			}
			name := nameOf(lists)
			if other, ok := read[name]; ok {
				t.Fatalf("%x and %x are read as one list: %s", other, text, name)
			}
			read[name] = string(text)
		}
		texts = longer
	}
	if len(read) < 1000 {
		t.Errorf("only %d were read", len(read))
	}
}

// nameOf: unlike for unlike lists.
func nameOf(lists [][]byte) string {
	out := ""
	for _, b := range lists {
		for _, x := range b {
			out += string(rune('a' + int(x)))
		}
		out += "|"
	}
	return out
}

// P1105: where one list's bytes are cut otherwise, the text is another one.
func TestCutOtherwise(t *testing.T) {
	read := map[string][2]int{}
	b := sample(1, 70)
	for i := range len(b) + 1 {
		for j := i; j <= len(b); j++ {
			text, e := codec.Vectors(b[:i], b[i:j], b[j:])
			if e != api.OK {
				t.Fatal(e)
			}
			if other, ok := read[string(text)]; ok {
				t.Fatalf("cut at %v and at %d, %d: one text", other, i, j)
			}
			read[string(text)] = [2]int{i, j}
		}
	}
}
