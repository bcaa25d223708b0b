package schedule_test

import (
	"bytes"
	"math/rand"
	"slices"
	"testing"

	"synod/api"
	"synod/schedule"
)

// P1602: bytes written out.
func TestContextOfBytesWrittenOut(t *testing.T) {
	c := schedule.Context{Group: []byte("ab"), Epoch: 0x01020304, Tree: []byte{9}, Transcript: bytes.Repeat([]byte{7}, 64)}
	want := slices.Concat([]byte{0, 1, 0, 1, 2, 97, 98, 0, 0, 0, 0, 1, 2, 3, 4, 1, 9, 64, 64}, c.Transcript, []byte{0})
	if b, e := schedule.PutContext(c); e != api.OK || !bytes.Equal(b, want) {
		t.Errorf("%v, error %d", b, e)
	}
	want = []byte{0, 1, 0, 1, 0, 0, 0, 0, 0, 0, 0, 0, 0, 0, 0, 0}
	if b, e := schedule.PutContext(schedule.Context{}); e != api.OK || !bytes.Equal(b, want) {
		t.Errorf("%v, error %d", b, e)
	}
}

// P1602, P1606: put by the words, and got as it was put.
func TestContextThereAndBack(t *testing.T) {
	for _, c := range contexts() {
		b, e := schedule.PutContext(c)
		if e != api.OK || !bytes.Equal(b, slowContext(c)) {
			t.Errorf("epoch %d: %x, error %d", c.Epoch, b, e)
		}
		if got, e := schedule.GetContext(b); e != api.OK || !sameContext(got, c) {
			t.Errorf("epoch %d: %v, error %d", c.Epoch, got, e)
		}
	}
}

// P1602: what may not be is not put.
func TestPutContextRefused(t *testing.T) {
	for _, c := range badContexts() {
		if b, e := schedule.PutContext(c); e != api.ErrArg || len(b) != 0 {
			t.Errorf("epoch %d, %d, %d and %d bytes: %d bytes, error %d", c.Epoch, len(c.Group), len(c.Tree), len(c.Transcript), len(b), e)
		}
	}
}

func checkNoContext(t *testing.T, b []byte) {
	t.Helper()
	if c, e := schedule.GetContext(b); e != api.ErrForm || !sameContext(c, schedule.Context{}) {
		t.Errorf("%d bytes, %x..: %v, error %d", len(b), b[:min(len(b), 40)], c, e)
	}
}

// P1602: what may not be, written all the same. (A list of more than MaxBytes is no vector, either.)
func TestGetContextRefused(t *testing.T) {
	for _, c := range badContexts() {
		checkNoContext(t, slowContext(c))
	}
}

// P1602: no bytes, bytes that end too early at each place, and bytes behind or ahead.
func TestGetContextOfOtherLengths(t *testing.T) {
	checkNoContext(t, nil)
	checkNoContext(t, []byte{})
	for _, c := range contexts() {
		b := slowContext(c)
		for n := range b {
			checkNoContext(t, b[:n])
		}
		for _, x := range []byte{0, 1, 64, 192, 255} {
			checkNoContext(t, append(bytes.Clone(b), x))
			checkNoContext(t, append([]byte{x}, b...))
		}
		checkNoContext(t, slices.Concat(b, b))
		checkNoContext(t, slices.Concat(b, make([]byte, 2*api.MaxBytes)))
	}
	for n := range 300 {
		for _, x := range []byte{0, 1, 2, 64, 255} {
			checkNoContext(t, bytes.Repeat([]byte{x}, n))
		}
	}
}

// P1602: another version, another suite.
func TestGetContextOfOtherKinds(t *testing.T) {
	for n := range 1 << 16 {
		for _, at := range []int{0, 2} {
			b := slowContext(context(7, 3, 4, 5))
			b[at], b[at+1] = byte(n>>8), byte(n)
			if n != 1 {
				checkNoContext(t, b)
			} else if _, e := schedule.GetContext(b); e != api.OK {
				t.Errorf("error %d", e)
			}
		}
	}
}

// P1602: something where nothing is to stand: in the last vector.
func TestGetContextWithMore(t *testing.T) {
	for _, n := range []int{1, 2, 63, 64, 255, 16384, api.MaxBytes, api.MaxBytes + 1} {
		b := slowContext(context(7, 3, 4, 5))
		checkNoContext(t, slices.Concat(b[:len(b)-1], slowVector(make([]byte, n))))
	}
}

// P1602: each length in more bytes than it needs, and one that begins with 11.
func TestGetContextOfOtherLengthsForms(t *testing.T) {
	c := context(7, 3, 4, 5)
	b := slowContext(c)
	group, tree := 4, 4+1+3+8
	transcript := tree + 1 + 4
	for _, at := range []int{group, tree, transcript, len(b) - 1} {
		n := b[at]
		for _, length := range [][]byte{{64, n}, {128, 0, 0, n}, {192 | n}, {192, 0, 0, 0, 0, 0, 0, n}} {
			checkNoContext(t, slices.Concat(b[:at], length, b[at+1:]))
		}
	}
	long := slowContext(context(7, 100, 0, 0))
	checkNoContext(t, slices.Concat(long[:4], []byte{128, 0, 0, 100}, long[6:]))
}

// P1602: bytes changed at random are none, or those of the one that is told.
func TestGetContextOfChangedBytes(t *testing.T) {
	random := rand.New(rand.NewSource(1))
	count := map[api.Errno]int{}
	for _, c := range contexts() {
		whole := slowContext(c)
		for range 400 {
			b := bytes.Clone(whole)
			for range 1 + random.Intn(3) {
				b[random.Intn(len(b))] = byte(random.Intn(256))
			}
			got, e := schedule.GetContext(b)
			count[e]++
			if e == api.OK && !bytes.Equal(slowContext(got), b) || e != api.OK && !sameContext(got, schedule.Context{}) {
				t.Fatalf("%x: %v, error %d", b, got, e)
			}
			if again, f := schedule.PutContext(got); e == api.OK && (f != api.OK || !bytes.Equal(again, b)) {
				t.Fatalf("%x: put as %x, error %d", b, again, f)
			}
		}
	}
	if len(count) != 2 || count[api.OK] == 0 || count[api.ErrForm] == 0 {
		t.Error(count)
	}
}
