package hpke

import (
	"bytes"
	"testing"
)

// P1003: numbers that no test can count up to: the last eight bytes, the highest first; the four ahead of them stay.
func TestNonceOfHugeNumbers(t *testing.T) {
	k := keys{nonce: []byte{1, 2, 3, 4, 5, 6, 7, 8, 9, 10, 11, 12}}
	before := bytes.Clone(k.nonce)
	for _, x := range []struct {
		number uint64
		want   []byte
	}{
		{0, []byte{1, 2, 3, 4, 5, 6, 7, 8, 9, 10, 11, 12}},
		{1, []byte{1, 2, 3, 4, 5, 6, 7, 8, 9, 10, 11, 13}},
		{1 << 16, []byte{1, 2, 3, 4, 5, 6, 7, 8, 9, 11, 11, 12}},
		{1 << 32, []byte{1, 2, 3, 4, 5, 6, 7, 9, 9, 10, 11, 12}},
		{1 << 63, []byte{1, 2, 3, 4, 133, 6, 7, 8, 9, 10, 11, 12}},
		{0x0102030405060708, []byte{1, 2, 3, 4, 4, 4, 4, 12, 12, 12, 12, 4}},
		{1<<64 - 1, []byte{1, 2, 3, 4, 250, 249, 248, 247, 246, 245, 244, 243}},
	} {
		if got := k.nonceOf(x.number); !bytes.Equal(got, x.want) || !bytes.Equal(k.nonce, before) {
			t.Errorf("of %d: %v, not %v", x.number, got, x.want)
		}
	}
}

// P1003: a message that is refused does not count, one that went through counts once, at whatever number.
func TestNumberGoesOn(t *testing.T) {
	shared := make([]byte, size)
	for _, start := range []uint64{0, 255, 1<<32 - 1, 1 << 40} {
		sender, _ := New(shared, nil)
		receiver, _ := New(shared, nil)
		sender.number, receiver.number = start, start
		b, _ := sender.Seal(nil, []byte("text"))
		sender.Open(nil, b)
		receiver.Open(b, b)
		if sender.number != start+1 || receiver.number != start {
			t.Errorf("from %d: %d, %d", start, sender.number, receiver.number)
		}
		if text, _ := receiver.Open(nil, b); string(text) != "text" || receiver.number != start+1 {
			t.Errorf("from %d: %q, %d", start, text, receiver.number)
		}
	}
}
