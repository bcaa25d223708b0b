package ratchet_test

import (
	"bytes"
	"math/rand"
	"testing"

	"synod/api"
)

// checkUsed: neither Key nor Use is OK, nor does either change anything.
func checkUsed(p *pair, l line, gen int) {
	p.Helper()
	p.unchanged("a generation that was used", func() {
		key, nonce, e := p.r.Key(l.leaf, l.text, gen)
		if f := p.r.Use(l.leaf, l.text, gen); e != api.ErrUsed || f != api.ErrUsed || len(key) != 0 || len(nonce) != 0 {
			p.Fatalf("%v, generation %d, used already: %x, %x, errors %d and %d", l, gen, key, nonce, e, f)
		}
	})
}

// P1705, P1706: each window's generations in many orders: each one once, with the key that it had at first.
func TestAnyOrder(t *testing.T) {
	random := rand.New(rand.NewSource(1))
	for round := range 30 {
		p := newPair(t, int64(round), sizes[round%len(sizes)])
		l := line{random.Intn(p.leaves), round%2 == 0}
		var used []int
		for _, gen := range random.Perm(33) {
			// the last one may have left the window behind it
			want := p.refusal(l, gen)
			p.key(l, gen)
			p.use(l, gen)
			if want == api.OK {
				used = append(used, gen)
			}
			for _, g := range used {
				checkUsed(p, l, g)
			}
			p.looks(l)
		}
		if len(used) < 32 {
			t.Errorf("%d of 33 were used", len(used))
		}
	}
}

// P1706: those behind the last one by less than MaxAhead, in falling order, and in the order of another step.
func TestFallingOrder(t *testing.T) {
	for _, step := range []int{31, 1, 7, 12} {
		p := newPair(t, int64(step), 8)
		l := line{5, true}
		p.use(l, 31)
		for i := range 31 {
			gen := (i+1)*step%32 - 1
			if gen < 0 {
				continue
			}
			p.key(l, gen)
			p.use(l, gen)
			checkUsed(p, l, gen)
		}
		p.whole(l)
	}
}

// P1705: Next uses what it tells, and no other one.
func TestNextOnce(t *testing.T) {
	p := newPair(t, 2, 4)
	l := line{1, false}
	for gen := range 70 {
		p.next(l)
		checkUsed(p, l, gen)
		p.looks(l)
	}
	p.use(l, 100)
	p.next(l)
	checkUsed(p, l, 101)
	p.use(l, 80)
	checkUsed(p, l, 80)
	p.all()
}

// P1703, P1705, P1706: whatever is called, in whatever order, with copies that go on by themselves.
func TestWhatever(t *testing.T) {
	for round := range 14 {
		random := rand.New(rand.NewSource(int64(round)))
		n := sizes[round%len(sizes)]
		pairs := []*pair{newPair(t, int64(round), n)}
		lines := make([]line, min(2*n, 5))
		for i := range lines {
			lines[i] = line{random.Intn(n), random.Intn(2) == 0}
		}
		count := map[api.Errno]int{}
		for range 1500 {
			p, l := pairs[random.Intn(len(pairs))], lines[random.Intn(len(lines))]
			gen := p.sures[l] + random.Intn(80) - 40
			count[p.refusal(l, gen)]++
			switch random.Intn(8) {
			case 0:
				p.next(l)
			case 1, 2, 3:
				p.use(l, gen)
			case 4, 5:
				p.unchanged("Key", func() { p.key(l, gen) })
			case 6:
				p.unchanged("a look", func() { p.looks(l) })
			case 7:
				if len(pairs) < 4 && random.Intn(20) == 0 {
					pairs = append(pairs, p.copy())
				}
			}
		}
		for _, p := range pairs {
			for _, l := range lines {
				p.whole(l)
			}
		}
		if count[api.OK] == 0 || count[api.ErrUsed] == 0 || count[api.ErrFar] == 0 {
			t.Error(count)
		}
	}
}

// P1707: two, of which one used what the other one did not, tell the same keys of what both may use.
func TestTwoThatUsedOthers(t *testing.T) {
	random := rand.New(rand.NewSource(3))
	for round := range 12 {
		n := sizes[round%len(sizes)]
		one, two := newPair(t, int64(round), n), newPair(t, int64(round), n)
		if round%2 == 0 {
			two = one.copy()
		}
		for range 6 * n {
			p := []*pair{one, two}[random.Intn(2)]
			l := line{random.Intn(n), random.Intn(2) == 0}
			p.use(l, p.sures[l]+random.Intn(20)-10)
		}
		both := 0
		for _, l := range linesOf(n) {
			for gen := range max(one.sures[l], two.sures[l]) + 3 {
				key, nonce, e := one.r.Key(l.leaf, l.text, gen)
				otherKey, otherNonce, f := two.r.Key(l.leaf, l.text, gen)
				if e != api.OK || f != api.OK {
					continue
				}
				both++
				if !bytes.Equal(key, otherKey) || !bytes.Equal(nonce, otherNonce) {
					t.Fatalf("%v, generation %d: %x, %x, not %x, %x", l, gen, key, nonce, otherKey, otherNonce)
				}
			}
		}
		if both == 0 {
			t.Error("nothing that both may use")
		}
		one.all()
		two.all()
	}
}

// P1707: what one leaf uses has no weight for the keys of another one, or of the leaf's other ratchet, nor has the order in which leaves are asked for.
func TestLeavesApart(t *testing.T) {
	for _, n := range sizes {
		for _, order := range [][]int{rand.New(rand.NewSource(4)).Perm(n), rand.New(rand.NewSource(5)).Perm(n)} {
			p := newPair(t, 9, n)
			for _, i := range order {
				p.use(line{i, i%2 == 0}, i%33)
				for _, l := range linesOf(n) {
					p.key(l, p.sures[l])
				}
			}
			for _, l := range linesOf(n) {
				p.looks(l)
			}
		}
	}
}
