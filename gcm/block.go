package gcm

import "iter"

const (
	size     = 16 // bytes of a block, of a key and of a tag
	wordSize = 8
	wordBits = 64
)

// reducing: x^128 as the sum of lower ones, 1 + x + x^2 + x^7, in a block's first word.
const reducing = 0xe1 << 56

// block: 16 bytes as two words, the first byte the highest of the first word; so the highest bit of a word is the one of its lowest power.
type block [size / wordSize]uint64

// blockOf: at most 16 bytes, with zeros behind them.
func blockOf(b []byte) block {
	var out block
	for i, x := range b {
		out[i/wordSize] |= uint64(x) << shiftOf(i)
	}
	return out
}

func (a block) bytes() []byte {
	out := make([]byte, size)
	for i := range out {
		out[i] = byte(a[i/wordSize] >> shiftOf(i))
	}
	return out
}

// shiftOf: how far from its word's lower end a block's byte stands.
func shiftOf(i int) int { return wordBits - 8 - i%wordSize*8 }

// plus: the sum, which undoes itself.
func (a block) plus(b block) block { return block{a[0] ^ b[0], a[1] ^ b[1]} }

// times: the product, power by power of b. Its words stand apart and are masked, not branched on: this is nearly all the time that a hash takes, and it does not tell the bits.
func (a block) times(b block) block {
	first, second := a[0], a[1]
	var sumFirst, sumSecond uint64
	for _, word := range b {
		for range wordBits {
			taken, over := -(word >> (wordBits - 1)), -(second & 1)
			sumFirst, sumSecond = sumFirst^first&taken, sumSecond^second&taken
			first, second = first>>1^reducing&over, second>>1|first<<(wordBits-1)
			word <<= 1
		}
	}
	return block{sumFirst, sumSecond}
}

// same: it looks at both words, so that its time does not tell where a tag that somebody guessed differs.
func (a block) same(b block) bool {
	unlike := a.plus(b)
	return unlike[0]|unlike[1] == 0
}

// blocks: of each of the lists, one behind the other, its bytes with zeros up to whole blocks.
func blocks(lists ...[]byte) iter.Seq[block] {
	return func(yield func(block) bool) {
		for _, b := range lists {
			for at := 0; at < len(b); at += size {
				if !yield(blockOf(b[at:min(at+size, len(b))])) {
					return
				}
			}
		}
	}
}

// hashed: from zeros on, with each block the sum, times h.
func hashed(h block, told iter.Seq[block]) block {
	var sum block
	for b := range told {
		sum = sum.plus(b).times(h)
	}
	return sum
}
