package aes_test

import (
	"math/bits"
	"testing"

	"synod/aes"
)

// product: of two bytes as polynomials, bit by bit.
func product(a, b byte) byte {
	var sum uint16
	for i := range 8 {
		if b>>i&1 == 1 {
			sum ^= uint16(a) << i
		}
	}
	for i := 15; i >= 8; i-- {
		if sum>>i&1 == 1 {
			sum ^= 0x11b << (i - 8)
		}
	}
	return byte(sum)
}

// slowBox: Box by its words: the partner is looked for among all bytes.
func slowBox(x byte) byte {
	partner := byte(0)
	for y := range 256 {
		if product(x, byte(y)) == 1 {
			partner = byte(y)
		}
	}
	out := byte(99)
	for n := range 5 {
		out ^= bits.RotateLeft8(partner, n)
	}
	return out
}

// P802: the chapter's examples.
func TestExamples(t *testing.T) {
	if aes.Box(0) != 99 || aes.Box(83) != 237 {
		t.Errorf("%d, %d", aes.Box(0), aes.Box(83))
	}
}

// P802: every byte, against the words.
func TestBox(t *testing.T) {
	for x := range 256 {
		if got, want := aes.Box(byte(x)), slowBox(byte(x)); got != want {
			t.Errorf("of %d: %d, not %d", x, got, want)
		}
	}
}

// P802: every byte, the other way: of 3 the powers are all bytes but 0, and of what undoes 3 they are their partners.
func TestBoxByPowers(t *testing.T) {
	third := byte(0)
	for y := range 256 {
		if product(3, byte(y)) == 1 {
			third = byte(y)
		}
	}
	seen := map[byte]bool{0: true}
	x, y := byte(1), byte(1)
	for range 255 {
		seen[x] = true
		want := 99 ^ y ^ bits.RotateLeft8(y, 1) ^ bits.RotateLeft8(y, 2) ^ bits.RotateLeft8(y, 3) ^ bits.RotateLeft8(y, 4)
		if got := aes.Box(x); got != want {
			t.Errorf("of %d: %d, not %d", x, got, want)
		}
		x, y = product(x, 3), product(y, third)
	}
	if len(seen) != 256 {
		t.Errorf("%d bytes", len(seen))
	}
}

// P804: one to one, and no byte is its own.
func TestBoxIsOneToOne(t *testing.T) {
	from := map[byte]int{}
	for x := range 256 {
		b := aes.Box(byte(x))
		if b == byte(x) {
			t.Errorf("%d is its own", x)
		}
		if other, ok := from[b]; ok {
			t.Errorf("%d and %d have %d", other, x, b)
		}
		from[b] = x
	}
}

// P801: the same again, whatever came before.
func TestBoxIsPure(t *testing.T) {
	for x := range 256 {
		want := aes.Box(byte(x))
		for y := range 256 {
			aes.Box(byte(y))
		}
		if got := aes.Box(byte(x)); got != want {
			t.Errorf("of %d: %d, then %d", x, want, got)
		}
	}
}
