package hpke_test

import (
	"bytes"
	"math"
	"testing"

	"synod/api"
	"synod/hpke"
)

// The chapter's example: one text twice, unlike; opened in order.
func TestExample(t *testing.T) {
	sender, receiver := context(t, sample(1, 32), nil), context(t, sample(1, 32), nil)
	text := []byte("again")
	one, two := seal(t, sender, nil, text), seal(t, sender, nil, text)
	if bytes.Equal(one, two) {
		t.Errorf("twice %x", one)
	}
	checkOpen(t, receiver, nil, one, text)
	checkOpen(t, receiver, nil, two, text)
}

// checkContext: its first messages and its exports are what the chapter's words say.
func checkContext(t *testing.T, shared, info []byte) {
	t.Helper()
	c, want := context(t, shared, info), slowNew(t, shared, info)
	for i := range 3 {
		more, text := sample(int64(i), 7*i), sample(int64(10+i), 17*i)
		if got, want := seal(t, c, more, text), want.seal(t, more, text); !bytes.Equal(got, want) {
			t.Fatalf("of %x and %d bytes: message %d: %x, not %x", shared, len(info), i, got, want)
		}
		if got, want := exported(t, c, more, 20+i), want.export(t, more, 20+i); !bytes.Equal(got, want) {
			t.Fatalf("of %x and %d bytes: export %d: %x, not %x", shared, len(info), i, got, want)
		}
	}
}

// P1003: shareds at their edges, with infos of all kinds, as long as it may be too.
func TestNew(t *testing.T) {
	shareds := [][]byte{make([]byte, 32), bytes.Repeat([]byte{255}, 32), sample(1, 32)}
	for _, shared := range shareds {
		for _, n := range []int{0, 1, 16, 31, 32, 33, 37, 38, 39, 47, 48, 55, 64, 100, 1000, api.MaxBytes - 1, api.MaxBytes} {
			checkContext(t, shared, make([]byte, n))
			checkContext(t, shared, sample(int64(n), n))
		}
	}
	for bit := range 256 {
		checkContext(t, flipped(make([]byte, 32), bit), []byte("info"))
	}
}

// checkNoNew: that error and nothing beside it.
func checkNoNew(t *testing.T, shared, info []byte, want api.Errno) {
	t.Helper()
	if c, e := hpke.New(shared, info); e != want || c != nil {
		t.Errorf("New of %d bytes and %d: %v, error %d, not %d", len(shared), len(info), c, e, want)
	}
}

// P1003: shareds of other lengths, ahead of an info that is too long.
func TestNewRefused(t *testing.T) {
	over := make([]byte, api.MaxBytes+1)
	for _, bad := range others(32) {
		for _, info := range [][]byte{nil, sample(1, 20), over} {
			checkNoNew(t, bad, info, api.ErrArg)
		}
	}
	checkNoNew(t, sample(1, 32), over, api.ErrSize)
	checkNoNew(t, sample(1, 32), make([]byte, 3*api.MaxBytes), api.ErrSize)
}

// P1003, P1005: messages of all lengths in a row, against the chapter's words, opened in order.
func TestMessages(t *testing.T) {
	shared, info := sample(1, 32), []byte("a row")
	sender, receiver, want := context(t, shared, info), context(t, shared, info), slowNew(t, shared, info)
	for i := range 600 {
		more, text := sample(int64(i), i*7%45), sample(int64(1000+i), i*11%100)
		b := seal(t, sender, more, text)
		if want := want.seal(t, more, text); !bytes.Equal(b, want) {
			t.Fatalf("message %d: %x, not %x", i, b, want)
		}
		checkOpen(t, receiver, more, b, text)
	}
}

// P1003: so many that the number passes two bytes.
func TestManyMessages(t *testing.T) {
	shared := sample(2, 32)
	sender, want := context(t, shared, nil), slowNew(t, shared, nil)
	for i := range 1<<16 + 3 {
		b := seal(t, sender, nil, nil)
		if want := want.seal(t, nil, nil); !bytes.Equal(b, want) {
			t.Fatalf("message %d: %x, not %x", i, b, want)
		}
	}
}

// P1003: Seal and Open of one context count by one number.
func TestSealAndOpenByOneContext(t *testing.T) {
	shared := sample(3, 32)
	one, two, want := context(t, shared, nil), context(t, shared, nil), slowNew(t, shared, nil)
	for i := range 20 {
		text := sample(int64(i), i)
		b := seal(t, one, nil, text)
		if want := want.seal(t, nil, text); !bytes.Equal(b, want) {
			t.Fatalf("message %d: %x, not %x", i, b, want)
		}
		checkOpen(t, two, nil, b, text)
		one, two = two, one
	}
}

// P1003: texts and mores as long as they may be, there and back.
func TestMostBytes(t *testing.T) {
	shared := sample(4, 32)
	sender, receiver, want := context(t, shared, nil), context(t, shared, nil), slowNew(t, shared, nil)
	most := sample(5, api.MaxBytes)
	for _, x := range []struct{ more, text []byte }{{most, nil}, {nil, most}, {most, most}} {
		b := seal(t, sender, x.more, x.text)
		if !bytes.Equal(b, want.seal(t, x.more, x.text)) {
			t.Errorf("%d bytes and %d more: sealed otherwise", len(x.text), len(x.more))
		}
		checkOpen(t, receiver, x.more, b, x.text)
	}
}

// P1003: Seal of too much: nothing beside the error, and the number does not go on.
func TestSealRefused(t *testing.T) {
	shared := sample(6, 32)
	c, want := context(t, shared, nil), slowNew(t, shared, nil)
	most, over := make([]byte, api.MaxBytes), make([]byte, api.MaxBytes+1)
	for i := range 3 {
		for _, x := range []struct{ more, text []byte }{{over, nil}, {nil, over}, {over, over}, {most, over}, {over, most}} {
			if b, e := c.Seal(x.more, x.text); e != api.ErrSize || len(b) != 0 {
				t.Errorf("%d bytes and %d more: %d bytes, error %d", len(x.text), len(x.more), len(b), e)
			}
		}
		text := sample(int64(i), 20)
		if got, want := seal(t, c, nil, text), want.seal(t, nil, text); !bytes.Equal(got, want) {
			t.Fatalf("message %d: %x, not %x", i, got, want)
		}
	}
}

// P1003: Open of what is none: the first error, nothing beside it, and the number does not go on.
func TestOpenRefused(t *testing.T) {
	shared := sample(7, 32)
	sender, receiver := context(t, shared, nil), context(t, shared, nil)
	over, far := make([]byte, api.MaxBytes+1), make([]byte, api.MaxBytes+17)
	for i := range 3 {
		more, text := sample(int64(i), 5), sample(int64(i), 20)
		b := seal(t, sender, more, text)
		for n := range b {
			checkShut(t, receiver, more, b[:n], api.ErrOpen)
		}
		checkShut(t, receiver, more, nil, api.ErrOpen)
		checkShut(t, receiver, more, far[:api.MaxBytes+16], api.ErrOpen)
		checkShut(t, receiver, more, far, api.ErrSize)
		checkShut(t, receiver, over, b, api.ErrSize)
		checkShut(t, receiver, over, nil, api.ErrSize)
		checkShut(t, receiver, nil, b, api.ErrOpen)
		checkOpen(t, receiver, more, b, text)
	}
}

// P1005: out of order nothing is opened: not one that is ahead, not one that was opened already; in order all still are.
func TestOutOfOrder(t *testing.T) {
	shared := sample(8, 32)
	sender, receiver := context(t, shared, nil), context(t, shared, nil)
	var sealed [][]byte
	for i := range 20 {
		sealed = append(sealed, seal(t, sender, nil, sample(int64(i), 10)))
	}
	for turn, b := range sealed {
		for i, other := range sealed {
			if i != turn {
				checkShut(t, receiver, nil, other, api.ErrOpen)
			}
		}
		checkOpen(t, receiver, nil, b, sample(int64(turn), 10))
	}
	for _, b := range sealed {
		checkShut(t, receiver, nil, b, api.ErrOpen)
	}
}

// P1007: with another shared or info, or another more, or a bit changed, nothing is opened.
func TestOpenByAnother(t *testing.T) {
	shared, info, more, text := sample(9, 32), sample(10, 12), sample(11, 12), sample(12, 20)
	b := seal(t, context(t, shared, info), more, text)
	for bit := range 256 {
		checkShut(t, context(t, flipped(shared, bit), info), more, b, api.ErrOpen)
	}
	receiver := context(t, shared, info)
	for bit := range 96 {
		checkShut(t, context(t, shared, flipped(info, bit)), more, b, api.ErrOpen)
		checkShut(t, receiver, flipped(more, bit), b, api.ErrOpen)
	}
	for _, other := range [][]byte{nil, info[:11], append(bytes.Clone(info), 0), append([]byte{0}, info...)} {
		checkShut(t, context(t, shared, other), more, b, api.ErrOpen)
	}
	for _, other := range [][]byte{nil, more[:11], append(bytes.Clone(more), 0), append([]byte{0}, more...)} {
		checkShut(t, receiver, other, b, api.ErrOpen)
	}
	for bit := range 8 * len(b) {
		checkShut(t, receiver, more, flipped(b, bit), api.ErrOpen)
	}
	for at := range b {
		for x := 1; x < 256; x++ {
			other := bytes.Clone(b)
			other[at] ^= byte(x)
			checkShut(t, receiver, more, other, api.ErrOpen)
		}
	}
	checkOpen(t, receiver, more, b, text)
}

// P1003: exports of all lengths, against the chapter's words; at both ends the same, whatever went through.
func TestExport(t *testing.T) {
	shared, info := sample(13, 32), sample(14, 9)
	one, two, want := context(t, shared, info), context(t, shared, info), slowNew(t, shared, info)
	for _, m := range []int{0, 1, 32, 100, api.MaxBytes - 1, api.MaxBytes} {
		more := sample(int64(m), m)
		for _, n := range []int{0, 1, 2, 16, 31, 32, 33, 255, 256, 257, 1000, 8159, 8160} {
			got := exported(t, one, more, n)
			if !bytes.Equal(got, want.export(t, more, n)) || !bytes.Equal(got, exported(t, two, more, n)) {
				t.Errorf("%d bytes with %d more: %x", n, m, got)
			}
			seal(t, one, nil, nil)
		}
	}
	if bytes.Equal(exported(t, one, nil, 32)[:31], exported(t, one, nil, 31)) {
		t.Error("the length has no weight")
	}
}

// P1003: too much to export; nothing beside the error, and the next message is as ever.
func TestExportRefused(t *testing.T) {
	shared := sample(15, 32)
	c, want := context(t, shared, nil), slowNew(t, shared, nil)
	over := make([]byte, api.MaxBytes+1)
	check := func(more []byte, n int) {
		t.Helper()
		if b, e := c.Export(more, n); e != api.ErrSize || len(b) != 0 {
			t.Errorf("%d bytes with %d more: %d bytes, error %d", n, len(more), len(b), e)
		}
	}
	for _, n := range []int{-1, -32, -8160, -65536, math.MinInt, 8161, 8192, 65535, 65536, 65536 + 32, 1 << 32, math.MaxInt} {
		check(nil, n)
		check(sample(1, 9), n)
		check(over, n)
	}
	for _, n := range []int{0, 1, 32, 8160} {
		check(over, n)
	}
	if got, want := seal(t, c, nil, nil), want.seal(t, nil, nil); !bytes.Equal(got, want) {
		t.Errorf("%x, not %x", got, want)
	}
}

// P1001: a nil Context, and one that New did not make: ErrArg ahead of all else, nothing beside it, and nothing becomes of it.
func TestContextsThatNobodyMade(t *testing.T) {
	over := make([]byte, api.MaxBytes+17)
	refused, _ := hpke.New(nil, nil)
	for i, c := range []*hpke.Context{nil, {}, new(hpke.Context), refused} {
		for _, more := range [][]byte{nil, sample(1, 5), over} {
			for _, b := range [][]byte{nil, sample(2, 40), over} {
				if x, e := c.Seal(more, b); e != api.ErrArg || len(x) != 0 {
					t.Errorf("context %d: Seal: %x, error %d", i, x, e)
				}
				if x, e := c.Open(more, b); e != api.ErrArg || len(x) != 0 {
					t.Errorf("context %d: Open: %x, error %d", i, x, e)
				}
			}
			for _, n := range []int{-1, 0, 1, 32, 8160, 8161, math.MinInt, math.MaxInt} {
				if x, e := c.Export(more, n); e != api.ErrArg || len(x) != 0 {
					t.Errorf("context %d: Export: %x, error %d", i, x, e)
				}
			}
		}
	}
}
