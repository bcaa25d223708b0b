package codec_test

import (
	"bytes"
	"encoding/binary"
	"encoding/hex"
	"math"
	"math/rand"
	"testing"

	"synod/api"
	"synod/codec"
)

func sample(seed int64, n int) []byte {
	b := make([]byte, n)
	rand.New(rand.NewSource(seed)).Read(b)
	return b
}

func fromHex(t *testing.T, s string) []byte {
	t.Helper()
	b, err := hex.DecodeString(s)
	if err != nil {
		t.Fatal(err)
	}
	return b
}

// slowNumber: as the library writes it.
func slowNumber(n, size int) []byte {
	return binary.BigEndian.AppendUint64(nil, uint64(n))[8-size:]
}

// slowLength: the chapter's words one by one.
func slowLength(n int) []byte {
	switch {
	case n <= 63:
		return []byte{byte(n)}
	case n <= 16383:
		return binary.BigEndian.AppendUint16(nil, 0x4000|uint16(n))
	}
	return binary.BigEndian.AppendUint32(nil, 0x80000000|uint32(n))
}

func slowVector(b []byte) []byte { return append(slowLength(len(b)), b...) }

// checkWritten: those bytes and no error.
func checkWritten(t *testing.T, b []byte, e api.Errno, want []byte) {
	t.Helper()
	if e != api.OK || !bytes.Equal(b, want) {
		t.Errorf("%d bytes, %x.., error %d, not %d bytes, %x..", len(b), b[:min(8, len(b))], e, len(want), want[:min(8, len(want))])
	}
}

// checkNotWritten: that error and nothing beside it.
func checkNotWritten(t *testing.T, b []byte, e, want api.Errno) {
	t.Helper()
	if e != want || len(b) != 0 {
		t.Errorf("%d bytes, error %d, not %d", len(b), e, want)
	}
}

// edges: lengths of lists at which the form of a length changes.
var edges = []int{0, 1, 2, 62, 63, 64, 65, 255, 256, 257, 1000, 16382, 16383, 16384, 16385, api.MaxBytes - 1, api.MaxBytes}

// The chapter's examples.
func TestExamples(t *testing.T) {
	b, e := codec.Length(63)
	checkWritten(t, b, e, []byte{63})
	b, e = codec.Length(64)
	checkWritten(t, b, e, []byte{64, 64})
	b, e = codec.Vector([]byte("ab"))
	checkWritten(t, b, e, []byte{2, 97, 98})
	r := codec.New([]byte{64, 5})
	if b := r.Vector(); len(b) != 0 || r.Err() != api.ErrForm || r.End() != api.ErrForm || r.Left() != 2 {
		t.Errorf("%x, error %d, %d left", b, r.Err(), r.Left())
	}
}

// P1102, P1103: the lengths of RFC 9420's section 2.1.2 (and RFC 9000's A.1), and 37 in two bytes, which is none here.
func TestKnownLengths(t *testing.T) {
	for _, x := range []struct {
		n int
		b string
	}{{494878333, "9d7f3e7d"}, {15293, "7bbd"}, {37, "25"}} {
		b, e := codec.Length(x.n)
		checkWritten(t, b, e, fromHex(t, x.b))
		r := codec.New(fromHex(t, x.b))
		if n := r.Length(); n != x.n || r.End() != api.OK {
			t.Errorf("%s: %d, error %d", x.b, n, r.End())
		}
	}
	r := codec.New(fromHex(t, "4025"))
	if n := r.Length(); n != 0 || r.Err() != api.ErrForm {
		t.Errorf("%d, error %d", n, r.Err())
	}
}

// greatest: number of so many bytes.
func greatest(size int) int {
	return map[int]int{1: 255, 2: 65535, 4: 4294967295, 8: 4611686018427387903}[size]
}

// P1102: numbers of each size at their edges and in between.
func TestNumber(t *testing.T) {
	for _, size := range []int{1, 2, 4, 8} {
		most := greatest(size)
		for _, n := range []int{0, 1, 2, 127, 128, 254, 255, most / 2, most/2 + 1, most - 1, most} {
			b, e := codec.Number(n, size)
			checkWritten(t, b, e, slowNumber(n, size))
		}
		random := rand.New(rand.NewSource(int64(size)))
		for range 1000 {
			n := random.Intn(most)
			b, e := codec.Number(n, size)
			checkWritten(t, b, e, slowNumber(n, size))
		}
		for bit := range 62 {
			if n := 1 << bit; n <= most {
				b, e := codec.Number(n, size)
				checkWritten(t, b, e, slowNumber(n, size))
			}
		}
	}
	b, e := codec.Number(0x0102030405060708, 8)
	checkWritten(t, b, e, []byte{1, 2, 3, 4, 5, 6, 7, 8})
	b, e = codec.Number(1<<62-1, 8)
	checkWritten(t, b, e, fromHex(t, "3fffffffffffffff"))
}

// P1102: numbers that do not fit.
func TestNumberRange(t *testing.T) {
	for _, size := range []int{1, 2, 4, 8} {
		most := greatest(size)
		for _, n := range []int{most + 1, most + 2, most * 2, 1 << 62, 1<<62 + 1, math.MaxInt - 1, math.MaxInt, -1, -2, -255, -256, -1 << 32, -1 << 62, math.MinInt + 1, math.MinInt} {
			b, e := codec.Number(n, size)
			checkNotWritten(t, b, e, api.ErrRange)
		}
		for bit := range 63 {
			if n := 1 << bit; n > most {
				b, e := codec.Number(n, size)
				checkNotWritten(t, b, e, api.ErrRange)
			}
		}
	}
}

// otherSizes: that no number has.
func otherSizes() []int {
	out := []int{-8, -4, -2, -1, 0, 3, 5, 6, 7, 256 + 1, 256 + 8, 1<<32 + 1, 1 << 61, 1 << 62, math.MaxInt, math.MinInt, math.MinInt + 1, math.MinInt + 8}
	for size := 9; size < 70; size++ {
		out = append(out, size)
	}
	return out
}

// P1102: other sizes, ahead of numbers that fit nowhere.
func TestNumberSizes(t *testing.T) {
	for _, size := range otherSizes() {
		for _, n := range []int{0, 1, 255, 256, 1<<62 - 1, 1 << 62, math.MaxInt, -1, math.MinInt} {
			b, e := codec.Number(n, size)
			checkNotWritten(t, b, e, api.ErrArg)
		}
	}
}

// P1102: lengths at their edges, all short ones, and others.
func TestLength(t *testing.T) {
	for n := range 1<<16 + 10 {
		b, e := codec.Length(n)
		checkWritten(t, b, e, slowLength(n))
	}
	random := rand.New(rand.NewSource(1))
	for range 1000 {
		n := random.Intn(1 << 30)
		b, e := codec.Length(n)
		checkWritten(t, b, e, slowLength(n))
	}
	for n, want := range map[int]string{0: "00", 63: "3f", 64: "4040", 16383: "7fff", 16384: "80004000", 1<<30 - 1: "bfffffff", 1 << 29: "a0000000"} {
		b, e := codec.Length(n)
		checkWritten(t, b, e, fromHex(t, want))
	}
}

// P1102: what no length says.
func TestLengthRange(t *testing.T) {
	for _, n := range []int{1 << 30, 1<<30 + 1, 1 << 31, 1<<32 - 1, 1 << 32, 1<<32 + 5, 1 << 62, math.MaxInt, -1, -2, -63, -64, -65, -16384, -1 << 30, -1 << 32, math.MinInt, math.MinInt + 1} {
		b, e := codec.Length(n)
		checkNotWritten(t, b, e, api.ErrRange)
	}
}

// P1102: vectors of all lengths that may be, at the edges.
func TestVector(t *testing.T) {
	for _, n := range edges {
		for _, b := range [][]byte{make([]byte, n), bytes.Repeat([]byte{255}, n), sample(int64(n), n)} {
			got, e := codec.Vector(b)
			checkWritten(t, got, e, slowVector(b))
		}
	}
	for n := range 300 {
		b := sample(int64(n), n)
		got, e := codec.Vector(b)
		checkWritten(t, got, e, slowVector(b))
	}
	b, e := codec.Vector(nil)
	checkWritten(t, b, e, []byte{0})
}

// P1102: vectors that are too long.
func TestVectorSize(t *testing.T) {
	for _, n := range []int{api.MaxBytes + 1, api.MaxBytes + 2, 2 * api.MaxBytes, 1 << 20} {
		b, e := codec.Vector(make([]byte, n))
		checkNotWritten(t, b, e, api.ErrSize)
	}
}

// P1102: vectors of none, of one, of several, of many; what they have in all is not bound.
func TestVectors(t *testing.T) {
	b, e := codec.Vectors()
	checkWritten(t, b, e, nil)
	b, e = codec.Vectors([][]byte{}...)
	checkWritten(t, b, e, nil)
	b, e = codec.Vectors(nil)
	checkWritten(t, b, e, []byte{0})
	b, e = codec.Vectors(nil, []byte("ab"), []byte{}, []byte("c"))
	checkWritten(t, b, e, []byte{0, 2, 'a', 'b', 0, 1, 'c'})
	var lists [][]byte
	var want []byte
	for _, n := range edges {
		list := sample(int64(n), n)
		lists, want = append(lists, list), append(want, slowVector(list)...)
		b, e = codec.Vectors(list)
		checkWritten(t, b, e, slowVector(list))
		b, e = codec.Vectors(lists...)
		checkWritten(t, b, e, want)
		b, e = codec.Vectors(list, list, list)
		checkWritten(t, b, e, bytes.Repeat(slowVector(list), 3))
	}
	b, e = codec.Vectors(make([][]byte, 100000)...)
	checkWritten(t, b, e, make([]byte, 100000))
}

// P1102: one that is too long, wherever it stands: nothing beside the error.
func TestVectorsSize(t *testing.T) {
	over, most := make([]byte, api.MaxBytes+1), make([]byte, api.MaxBytes)
	for _, l := range [][][]byte{{over}, {over, nil}, {nil, over}, {most, over}, {over, most}, {nil, over, nil}, {over, over}, {[]byte("a"), []byte("b"), over, []byte("c")}} {
		b, e := codec.Vectors(l...)
		checkNotWritten(t, b, e, api.ErrSize)
	}
}
