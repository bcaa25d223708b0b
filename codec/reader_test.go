package codec_test

import (
	"bytes"
	"encoding/binary"
	"math"
	"math/rand"
	"testing"

	"synod/api"
	"synod/codec"
)

// slowReader: the chapter's words one by one, of bytes that never move.
type slowReader struct {
	b   []byte
	at  int
	err api.Errno
}

func (r *slowReader) left() int { return len(r.b) - r.at }

func (r *slowReader) end() api.Errno {
	if r.err == api.OK && r.left() > 0 {
		return api.ErrForm
	}
	return r.err
}

func (r *slowReader) number(size int) int {
	switch {
	case r.err != api.OK:
		return 0
	case size != 1 && size != 2 && size != 4 && size != 8:
		r.err = api.ErrArg
		return 0
	case r.left() < size:
		r.err = api.ErrEnd
		return 0
	}
	n := binary.BigEndian.Uint64(append(make([]byte, 8-size), r.b[r.at:r.at+size]...))
	if n >= 1<<62 {
		r.err = api.ErrRange
		return 0
	}
	r.at += size
	return int(n)
}

// lengthThere: and how many bytes it takes; without reading on.
func (r *slowReader) lengthThere() (n, size int, e api.Errno) {
	b := r.b[r.at:]
	switch {
	case len(b) == 0:
		return 0, 0, api.ErrEnd
	case b[0] >= 0xc0:
		return 0, 0, api.ErrForm
	case b[0] < 0x40:
		return int(b[0]), 1, api.OK
	case b[0] < 0x80 && len(b) < 2, b[0] >= 0x80 && len(b) < 4:
		return 0, 0, api.ErrEnd
	case b[0] < 0x80:
		n, size = int(binary.BigEndian.Uint16(b))-0x4000, 2
	default:
		n, size = int(binary.BigEndian.Uint32(b))-0x80000000, 4
	}
	if len(slowLength(n)) < size {
		return 0, 0, api.ErrForm
	}
	return n, size, api.OK
}

func (r *slowReader) length() int {
	if r.err != api.OK {
		return 0
	}
	n, size, e := r.lengthThere()
	r.at, r.err = r.at+size, e
	return n
}

func (r *slowReader) vector() []byte {
	if r.err != api.OK {
		return nil
	}
	n, size, e := r.lengthThere()
	if e == api.OK && n > api.MaxBytes {
		e = api.ErrForm
	}
	if e == api.OK && r.left()-size < n {
		e = api.ErrEnd
	}
	if e != api.OK {
		r.err = e
		return nil
	}
	r.at += size + n
	return r.b[r.at-n : r.at]
}

func (r *slowReader) take(n int) []byte {
	switch {
	case r.err != api.OK:
		return nil
	case n < 0:
		r.err = api.ErrArg
		return nil
	case r.left() < n:
		r.err = api.ErrEnd
		return nil
	}
	r.at += n
	return r.b[r.at-n : r.at]
}

// step: one call of a Reader, by its kind and its number.
type step struct{ kind, n int }

const (
	number = iota
	length
	vector
	take
	stepKinds
)

// of: what the step answers, as a number or as bytes.
func (s step) of(r *codec.Reader) (int, []byte) {
	switch s.kind {
	case number:
		return r.Number(s.n), nil
	case length:
		return r.Length(), nil
	case vector:
		return 0, r.Vector()
	}
	return 0, r.Take(s.n)
}

func (s step) slow(r *slowReader) (int, []byte) {
	switch s.kind {
	case number:
		return r.number(s.n), nil
	case length:
		return r.length(), nil
	case vector:
		return 0, r.vector()
	}
	return 0, r.take(s.n)
}

// checkSteps: each answers what the chapter's words say, and leaves behind what they say.
func checkSteps(t *testing.T, b []byte, steps ...step) {
	t.Helper()
	r, want := codec.New(b), &slowReader{b: b}
	checkState(t, r, want.left(), want.err, want.end())
	for i, s := range steps {
		n, got := s.of(r)
		wantN, wantB := s.slow(want)
		if n != wantN || !bytes.Equal(got, wantB) {
			t.Fatalf("of %x.. (%d bytes): %v: step %d: %d, %d bytes, not %d, %d bytes", b[:min(9, len(b))], len(b), steps, i, n, len(got), wantN, len(wantB))
		}
		checkState(t, r, want.left(), want.err, want.end())
	}
}

// checkState: twice, for asking changes nothing.
func checkState(t *testing.T, r *codec.Reader, left int, err, end api.Errno) {
	t.Helper()
	for range 2 {
		if r.Left() != left || r.Err() != err || r.End() != end {
			t.Fatalf("%d left, error %d, end %d, not %d, %d, %d", r.Left(), r.Err(), r.End(), left, err, end)
		}
	}
}

// P1103: calls one behind the other, at the beginning, in the middle and at the end; nothing is read behind it.
func TestReadingOn(t *testing.T) {
	b := fromHex(t, "01"+"0002"+"00000003"+"0000000000000004"+"05"+"4040"+"026162"+"070809")
	r := codec.New(b)
	for i, size := range []int{1, 2, 4, 8} {
		if n := r.Number(size); n != i+1 {
			t.Errorf("number of %d bytes: %d", size, n)
		}
	}
	if one, two := r.Length(), r.Length(); one != 5 || two != 64 {
		t.Errorf("%d, %d", one, two)
	}
	if v := r.Vector(); string(v) != "ab" {
		t.Errorf("%q", v)
	}
	checkState(t, r, 3, api.OK, api.ErrForm)
	if v := r.Take(2); !bytes.Equal(v, []byte{7, 8}) {
		t.Errorf("%x", v)
	}
	checkState(t, r, 1, api.OK, api.ErrForm)
	if v := r.Take(1); !bytes.Equal(v, []byte{9}) {
		t.Errorf("%x", v)
	}
	checkState(t, r, 0, api.OK, api.OK)
	if v := r.Take(0); len(v) != 0 {
		t.Errorf("%x", v)
	}
	checkState(t, r, 0, api.OK, api.OK)
	if n := r.Number(1); n != 0 {
		t.Errorf("%d", n)
	}
	checkState(t, r, 0, api.ErrEnd, api.ErrEnd)
}

// P1103: of no bytes: nothing but Take(0) can be read.
func TestNoBytes(t *testing.T) {
	for _, b := range [][]byte{nil, {}} {
		checkSteps(t, b)
		for _, s := range []step{{number, 1}, {number, 2}, {number, 4}, {number, 8}, {length, 0}, {vector, 0}, {take, 1}, {take, math.MaxInt}} {
			r := codec.New(b)
			s.of(r)
			checkState(t, r, 0, api.ErrEnd, api.ErrEnd)
			checkSteps(t, b, step{take, 0}, s, step{take, 0})
		}
		checkSteps(t, b, step{take, 0}, step{take, 0})
		checkSteps(t, b, step{number, 3})
		checkSteps(t, b, step{take, -1})
	}
}

// checkFault: the step answers nothing and that error, in the middle of bytes too, and reads nothing.
func checkFault(t *testing.T, b []byte, s step, want api.Errno) {
	t.Helper()
	for _, ahead := range []int{0, 1, 5} {
		r := codec.New(append(make([]byte, ahead), b...))
		r.Take(ahead)
		if n, got := s.of(r); n != 0 || len(got) != 0 {
			t.Errorf("%v of %x..: %d, %d bytes", s, b[:min(9, len(b))], n, len(got))
		}
		checkState(t, r, len(b), want, want)
	}
}

// P1103: too few bytes for each call.
func TestEnd(t *testing.T) {
	for _, size := range []int{1, 2, 4, 8} {
		for n := range size {
			checkFault(t, bytes.Repeat([]byte{255}, n), step{number, size}, api.ErrEnd)
		}
	}
	for _, s := range []string{"", "40", "7f", "80", "8000", "800000", "bf", "bfff", "bfffff", "804000"} {
		checkFault(t, fromHex(t, s), step{length, 0}, api.ErrEnd)
		checkFault(t, fromHex(t, s), step{vector, 0}, api.ErrEnd)
	}
	for _, n := range edges[1:] {
		whole := slowVector(sample(int64(n), n))
		for _, cut := range []int{len(whole) - 1, len(whole) - n, len(whole) - n + n/2} {
			checkFault(t, whole[:cut], step{vector, 0}, api.ErrEnd)
		}
		checkFault(t, whole, step{take, len(whole) + 1}, api.ErrEnd)
	}
	for _, n := range []int{1, 2, 1 << 31, 1 << 32, math.MaxInt - 1, math.MaxInt} {
		checkFault(t, nil, step{take, n}, api.ErrEnd)
	}
}

// P1103: a length that begins with 11, however many bytes follow.
func TestFormOfEleven(t *testing.T) {
	for first := 0xc0; first < 0x100; first++ {
		for _, more := range [][]byte{nil, {0}, {0, 64, 0}, make([]byte, 7), bytes.Repeat([]byte{255}, 100)} {
			b := append([]byte{byte(first)}, more...)
			checkFault(t, b, step{length, 0}, api.ErrForm)
			checkFault(t, b, step{vector, 0}, api.ErrForm)
		}
	}
}

// P1103: lengths that take more bytes than they need, with all bytes behind them and without.
func TestFormOfLonger(t *testing.T) {
	check := func(head []byte, n int) {
		t.Helper()
		for _, more := range []int{0, 1, n} {
			b := append(bytes.Clone(head), make([]byte, more)...)
			checkFault(t, b, step{length, 0}, api.ErrForm)
			checkFault(t, b, step{vector, 0}, api.ErrForm)
		}
	}
	for n := range 64 {
		check(binary.BigEndian.AppendUint16(nil, 0x4000|uint16(n)), n)
	}
	for _, n := range []int{0, 1, 62, 63, 64, 65, 255, 256, 8192, 16382, 16383} {
		check(binary.BigEndian.AppendUint32(nil, 0x80000000|uint32(n)), n)
	}
}

// P1103: a vector of more than MaxBytes bytes, whether they are there or not; Length reads such a length.
func TestFormOfMore(t *testing.T) {
	for _, n := range []int{api.MaxBytes + 1, api.MaxBytes + 2, 2 * api.MaxBytes, 1 << 20, 1<<30 - 1} {
		for _, there := range []int{0, 1, api.MaxBytes, min(n, 1<<20) - 1, min(n, 1<<20), min(n, 1<<20) + 1} {
			b := append(slowLength(n), make([]byte, there)...)
			checkFault(t, b, step{vector, 0}, api.ErrForm)
			checkSteps(t, b, step{length, 0}, step{take, there}, step{take, 0})
		}
	}
	b := slowVector(sample(1, api.MaxBytes))
	checkSteps(t, b, step{vector, 0})
	checkSteps(t, append(b, 1), step{vector, 0}, step{number, 1})
	checkFault(t, b[:len(b)-1], step{vector, 0}, api.ErrEnd)
}

// P1103: a number of 8 bytes of 2^62 or more; one byte less is still ErrEnd.
func TestRange(t *testing.T) {
	for _, s := range []string{"4000000000000000", "4000000000000001", "7fffffffffffffff", "8000000000000000", "c000000000000000", "ffffffffffffffff"} {
		b := fromHex(t, s)
		checkFault(t, b, step{number, 8}, api.ErrRange)
		checkFault(t, append(b, 1, 2, 3), step{number, 8}, api.ErrRange)
		checkFault(t, b[:7], step{number, 8}, api.ErrEnd)
		checkSteps(t, b, step{number, 4}, step{number, 4})
	}
	checkSteps(t, fromHex(t, "3fffffffffffffff"), step{number, 8})
	if r := codec.New(fromHex(t, "3fffffffffffffff")); r.Number(8) != 1<<62-1 {
		t.Error("the greatest is another one")
	}
	if r := codec.New(fromHex(t, "ffffffffffff")); r.Number(4) != 1<<32-1 || r.Number(1) != 255 || r.Number(1) != 255 {
		t.Error("the greatest is another one")
	}
}

// P1103: other sizes, and Take below 0: whatever there is to read.
func TestArg(t *testing.T) {
	for _, b := range [][]byte{nil, {1}, bytes.Repeat([]byte{255}, 8), sample(1, 100)} {
		for _, size := range otherSizes() {
			checkFault(t, b, step{number, size}, api.ErrArg)
		}
		for _, n := range []int{-1, -2, -100, math.MinInt + 1, math.MinInt} {
			checkFault(t, b, step{take, n}, api.ErrArg)
		}
	}
}

// faults: one of each error, as bytes and the step that fails there.
func faults() map[api.Errno]struct {
	b []byte
	s step
} {
	type fault = struct {
		b []byte
		s step
	}
	return map[api.Errno]fault{
		api.ErrArg:   {[]byte{1, 2, 3}, step{number, 3}},
		api.ErrEnd:   {[]byte{9, 2, 3}, step{vector, 0}},
		api.ErrForm:  {[]byte{0xc0, 2, 3}, step{length, 0}},
		api.ErrRange: {bytes.Repeat([]byte{64}, 8), step{number, 8}},
	}
}

// P1103: behind an error all calls answer 0 and nothing, read nothing, and the first error stays, whatever would be there to read or to refuse.
func TestBehindAnError(t *testing.T) {
	for e, f := range faults() {
		b := append(bytes.Clone(f.b), 0, 1, 'a')
		if e == api.ErrEnd {
			b = f.b
		}
		for _, s := range []step{{number, 1}, {number, 2}, {number, 4}, {number, 8}, {number, 3}, {length, 0}, {vector, 0}, {take, 0}, {take, 1}, {take, -1}, {take, 1000}} {
			r := codec.New(b)
			f.s.of(r)
			checkState(t, r, len(b), e, e)
			for range 3 {
				if n, got := s.of(r); n != 0 || len(got) != 0 {
					t.Errorf("behind %d: %v: %d, %x", e, s, n, got)
				}
				checkState(t, r, len(b), e, e)
			}
		}
	}
}

// P1103: vectors, lengths and numbers of all kinds, one behind the other, with bytes left and without.
func TestManyOfAKind(t *testing.T) {
	var b []byte
	var steps []step
	for i, n := range edges {
		b = append(b, slowVector(sample(int64(n), n))...)
		b = append(b, slowLength(n*1000)...)
		b = append(b, slowNumber(n%256, 1<<(i%4))...)
		b = append(b, sample(int64(n), n)...)
		steps = append(steps, step{vector, 0}, step{length, 0}, step{number, 1 << (i % 4)}, step{take, n})
	}
	checkSteps(t, b, steps...)
	checkSteps(t, append(b, 1), steps...)
	checkSteps(t, append(b, 1), append(steps, step{take, 1})...)
	checkSteps(t, b, append(steps, step{take, 1})...)
}

// P1103: all bytes of which a length can be made.
func TestAllHeads(t *testing.T) {
	for first := range 256 {
		for second := range 256 {
			for _, b := range [][]byte{{byte(first)}, {byte(first), byte(second)}, {byte(first), byte(second), 0}, {byte(first), byte(second), 64, 0}, {byte(first), 0, byte(second), 0}, {byte(first), 0, byte(second), 1, 2, 3}} {
				checkSteps(t, b, step{length, 0}, step{take, 1})
				checkSteps(t, b, step{vector, 0}, step{take, 1})
			}
		}
	}
}

// P1103: all sorts of calls of all sorts of bytes.
func TestAnySteps(t *testing.T) {
	random := rand.New(rand.NewSource(1))
	for range 100000 {
		b := make([]byte, random.Intn(40))
		random.Read(b)
		for i := range b {
			if random.Intn(3) > 0 {
				b[i] %= 6
			}
		}
		var steps []step
		for range 1 + random.Intn(9) {
			s := step{kind: random.Intn(stepKinds)}
			switch s.kind {
			case number:
				s.n = []int{1, 1, 1, 2, 2, 4, 8, 3}[random.Intn(8)]
			case take:
				s.n = random.Intn(8) - random.Intn(2)*random.Intn(2)
			}
			steps = append(steps, s)
		}
		checkSteps(t, b, steps...)
	}
}
