package sha

type word interface{ uint32 | uint64 }

// maxBlock: bytes of the wider hash's block; the narrower one uses the first half of the room.
const maxBlock = 128

// engine: a hash under way. It holds arrays alone, so that a copy of it goes on by itself: Sum pads a copy.
type engine[W word] struct {
	state [8]W
	rest  [maxBlock]byte // bytes that do not fill a block yet
	count int            // of all bytes so far
}

func start[W word](r rules) engine[W] {
	var m engine[W]
	for i := range m.state {
		m.state[i] = highest[W](squares[i], r)
	}
	return m
}

func highest[W word](x uint64, r rules) W {
	return W(x >> uint(64-r.width))
}

// blockSize: 16 words.
func (r rules) blockSize() int { return 2 * r.width }

func (m *engine[W]) write(r rules, b []byte) {
	size := r.blockSize()
	held := m.count % size
	m.count += len(b)
	if held > 0 {
		n := copy(m.rest[held:size], b)
		if held+n < size {
			return
		}
		m.state = mix(r, m.state, m.rest[:size])
		b = b[n:]
	}
	for len(b) >= size {
		m.state = mix(r, m.state, b[:size])
		b = b[size:]
	}
	copy(m.rest[:], b)
}

// sum takes the engine by value: padding must not reach the one that is written on.
func (m engine[W]) sum(r rules) []byte {
	m.write(r, padding(r, m.count))
	size := r.width / 8
	out := make([]byte, 8*size)
	for i := range out {
		out[i] = byte(m.state[i/size] >> uint(r.width-8-i%size*8))
	}
	return out
}

// padding: what comes behind count bytes.
func padding(r rules, count int) []byte {
	size := r.blockSize()
	tail := r.width / 4 // of the number at the end
	zeros := (2*size - 1 - tail - count%size) % size
	out := make([]byte, 1+zeros+tail)
	out[0] = 128
	low, high := uint64(count)<<3, uint64(count)>>61
	for i := range 8 {
		out[len(out)-1-i] = byte(low >> uint(8*i))
	}
	if tail > 8 {
		out[len(out)-9] = byte(high)
	}
	return out
}

// mix: the state behind one more block.
func mix[W word](r rules, s [8]W, block []byte) [8]W {
	w := spread[W](r, block)
	width := uint(r.width)
	a, b, c, d, e, f, g, h := s[0], s[1], s[2], s[3], s[4], s[5], s[6], s[7]
	for t := range r.rounds {
		t1 := h + turnAll(e, r.large1, width) + (e&f ^ ^e&g) + highest[W](cubes[t], r) + w[t]
		t2 := turnAll(a, r.large0, width) + (a&b ^ a&c ^ b&c)
		h, g, f, e, d, c, b, a = g, f, e, d+t1, c, b, a, t1+t2
	}
	return [8]W{s[0] + a, s[1] + b, s[2] + c, s[3] + d, s[4] + e, s[5] + f, s[6] + g, s[7] + h}
}

// spread: the words W(t) of a block.
func spread[W word](r rules, block []byte) [80]W {
	var w [80]W
	width := uint(r.width)
	size := r.width / 8
	for i, x := range block {
		w[i/size] = w[i/size]<<8 | W(x)
	}
	for t := 16; t < r.rounds; t++ {
		w[t] = turnShift(w[t-2], r.small1, width) + w[t-7] + turnShift(w[t-15], r.small0, width) + w[t-16]
	}
	return w
}

func turnAll[W word](x W, n [3]uint, width uint) W {
	return turn(x, n[0], width) ^ turn(x, n[1], width) ^ turn(x, n[2], width)
}

func turnShift[W word](x W, n [3]uint, width uint) W {
	return turn(x, n[0], width) ^ turn(x, n[1], width) ^ x>>n[2]
}

func turn[W word](x W, n, width uint) W {
	return x>>n | x<<(width-n)
}
