package aes

const (
	size   = 16 // bytes of a key, and of a block
	rounds = 10
	side   = 4
)

// reducing: x^8 as the sum of lower ones, by the polynomial that products are taken of.
const reducing = 0x1b

// square: a block, column by column.
type square [size]byte

// squareOf: a copy of b, so that no step can reach an argument.
func squareOf(b []byte) square {
	var s square
	copy(s[:], b)
	return s
}

// through: s behind those steps, one after the other.
func (s square) through(steps ...func(square) square) square {
	for _, step := range steps {
		s = step(s)
	}
	return s
}

// plus: both added, which undoes itself.
func (s square) plus(key square) square {
	for i, x := range key {
		s[i] ^= x
	}
	return s
}

// boxed: each byte by Box.
func (s square) boxed() square {
	table := boxes()
	for i, x := range s {
		s[i] = table[x]
	}
	return s
}

// unboxed: the other way. It turns the one table round, so that a second one can't disagree with it.
func (s square) unboxed() square {
	var table [256]byte
	for i, x := range boxes() {
		table[x] = byte(i)
	}
	for i, x := range s {
		s[i] = table[x]
	}
	return s
}

// turned: each row to the left by its number.
func (s square) turned() square {
	var out square
	for i := range out {
		out[i] = s[(i+side*(i%side))%size]
	}
	return out
}

// unturned: four turns to the left are none, and so three undo one.
func (s square) unturned() square { return s.turned().turned().turned() }

// mixed: each column changed. With the sum of all four a column's byte needs only the double of what it and the next one have together.
func (s square) mixed() square {
	var out square
	for i, x := range s {
		start := i - i%side
		sum := s[start] ^ s[start+1] ^ s[start+2] ^ s[start+3]
		out[i] = x ^ sum ^ double(x^s[start+(i+1)%side])
	}
	return out
}

// unmixed: the columns' change done four times changes nothing, and so three times undo one.
func (s square) unmixed() square { return s.mixed().mixed().mixed() }

// double: twice x, as polynomials; without a branch, which would be taken as often as not.
func double(x byte) byte { return x<<1 ^ x>>7*reducing }

// roundKeys: the key, and one made of each before it.
func roundKeys(key square) [rounds + 1]square {
	out := [rounds + 1]square{key}
	power := byte(1)
	for i := 1; i <= rounds; i++ {
		out[i] = out[i-1].next(power)
		power = double(power)
	}
	return out
}

// next: the round key behind s. Each of its words is the one before it, added to the word of s in its place; ahead of the first stands the last word of s, changed.
func (s square) next(power byte) square {
	b := s.boxed()
	word := [side]byte{b[13] ^ power, b[14], b[15], b[12]}
	for i := range s {
		word[i%side] ^= s[i]
		s[i] = word[i%side]
	}
	return s
}
