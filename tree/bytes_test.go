package tree_test

import (
	"bytes"
	"encoding/binary"
	"math/rand"
	"slices"
	"testing"

	"synod/api"
	"synod/nodes"
	"synod/tree"
)

// checkNoTree: ErrForm and nothing beside it.
func checkNoTree(t *testing.T, name string, b []byte) {
	t.Helper()
	if x, e := tree.Decode(b); e != api.ErrForm || x != nil {
		t.Fatalf("%s: %v, error %d", name, x, e)
	}
}

// P1406: Encode, written out.
func TestEncodeWrittenOut(t *testing.T) {
	x := tree.New()
	if b := x.Encode(); len(b) != 0 {
		t.Errorf("%x", b)
	}
	x.Add(leaf(1))
	one := slices.Concat([]byte{1, 1}, slowLeaf(leaf(1)))
	vector := func(b []byte) []byte { return append([]byte{64 | byte(len(b)>>8), byte(len(b))}, b...) }
	if b := x.Encode(); !bytes.Equal(b, vector(one)) {
		t.Errorf("%x, not %x", b, vector(one))
	}
	x.Add(leaf(2))
	x.Add(leaf(3))
	two, three := slices.Concat([]byte{1, 1}, slowLeaf(leaf(2))), slices.Concat([]byte{1, 1}, slowLeaf(leaf(3)))
	blank := []byte{1, 0}
	if b, want := x.Encode(), slices.Concat(vector(one), blank, vector(two), blank, vector(three)); !bytes.Equal(b, want) {
		t.Errorf("%x, not %x", b, want)
	}
	x.SetPath(2, [][]byte{key(5)})
	x.Add(leaf(4))
	x.Remove(1)
	x.SetPath(3, [][]byte{key(6), key(7)})
	five, _ := x.Parent(5)
	root := slices.Concat([]byte{1, 2, 32}, key(7), []byte{0, 0})
	low := slices.Concat([]byte{1, 2, 32}, key(6), []byte{32}, five.Hash, []byte{0})
	four := slices.Concat([]byte{1, 1}, slowLeaf(leaf(4)))
	want := slices.Concat(vector(one), blank, blank, []byte{byte(len(root))}, root, vector(three), vector(low), vector(four))
	if b := x.Encode(); !bytes.Equal(b, want) {
		t.Errorf("%x, not %x", b, want)
	}
}

// P1406: there and back, of trees that calls made and of any others.
func TestThereAndBack(t *testing.T) {
	random := rand.New(rand.NewSource(6))
	for _, p := range append(grown(t, 7, 30), changed(t), unmerged(t), filled(t, 1), filled(t, 2), filled(t, 63), filled(t, 64)) {
		if len(p.s.members()) != 0 {
			read(t, p.s)
		}
	}
	for range 200 {
		read(t, strange(random))
	}
}

// P1406: what is read lives on as what was written.
func TestLifeOfRead(t *testing.T) {
	for seed, p := range grown(t, 8, 20) {
		if len(p.s.members()) == 0 {
			continue
		}
		q := read(t, p.s)
		q.live(rand.New(rand.NewSource(int64(seed))), 20, 4)
		q.check()
	}
}

// P1406: no bytes, bytes that end too early at each place, and bytes behind.
func TestDecodeOfOtherLengths(t *testing.T) {
	checkNoTree(t, "nil", nil)
	checkNoTree(t, "empty", []byte{})
	for _, p := range []*pair{filled(t, 1), filled(t, 3), changed(t), unmerged(t)} {
		b := p.x.Encode()
		for n := range b {
			if x, e := tree.Decode(b[:n]); e == api.OK {
				checkShorter(t, p.s, x, n)
			} else {
				checkNoTree(t, "too early", b[:n])
			}
		}
		for x := range 256 {
			checkNoTree(t, "a byte behind", append(bytes.Clone(b), byte(x)))
		}
		checkNoTree(t, "a byte ahead", append([]byte{0}, b...))
		checkNoTree(t, "much behind", append(bytes.Clone(b), make([]byte, 1<<20)...))
	}
}

// checkShorter: bytes that end where a place does may be those of a tree with fewer places.
func checkShorter(t *testing.T, s *slow, x *tree.Tree, n int) {
	t.Helper()
	list := s.list()
	for len(joined(list)) > n {
		list = list[:len(list)-1]
	}
	if !bytes.Equal(joined(list), x.Encode()) || len(x.Encode()) != n || !mayBeRead(list) {
		t.Errorf("%d places of %d bytes are read", len(list), n)
	}
}

// mayBeRead: whether the places, each of which may be, are those of a tree that Encode tells.
func mayBeRead(list [][]byte) bool {
	leaves := 1
	for 2*leaves-1 < len(list) {
		leaves *= 2
	}
	stands := func(x int) bool { return x >= 0 && x < len(list) && len(list[x]) > 1 }
	if leaves > api.MaxLeaves || !stands(len(list)-1) {
		return false
	}
	for i := leaves / 2; i < leaves; i++ {
		if stands(2 * i) {
			return true
		}
	}
	return false
}

// P1406: places one by one that are blank, or that end: what may be is read, all else is not.
func TestDecodeOfBlankPlaces(t *testing.T) {
	for _, p := range []*pair{filled(t, 8), changed(t), unmerged(t)} {
		list := p.s.list()
		for end := range len(list) + 1 {
			for first := range end {
				some := slices.Clone(list[:end])
				for x := first; x < end; x++ {
					some[x] = []byte{0}
					checkMaybe(t, some)
				}
			}
			checkMaybe(t, list[:end])
		}
	}
}

// checkMaybe: read, if it may be.
func checkMaybe(t *testing.T, list [][]byte) {
	t.Helper()
	b := joined(list)
	if !mayBeRead(list) {
		checkNoTree(t, "blank", b)
	} else if x, e := tree.Decode(b); e != api.OK || !bytes.Equal(x.Encode(), b) {
		t.Fatalf("error %d of %d places", e, len(list))
	}
}

// P1406: a blank last place written out, once and often.
func TestDecodeOfBlankLast(t *testing.T) {
	for _, p := range []*pair{filled(t, 1), filled(t, 2), filled(t, 3), filled(t, 5), changed(t)} {
		list := p.s.list()
		for range 130 {
			list = append(list, []byte{0})
			checkNoTree(t, "a blank last place", joined(list))
		}
	}
}

// P1406: no member.
func TestDecodeOfNoMember(t *testing.T) {
	parent := append([]byte{1, 2}, slowParent(nodes.Parent{Enc: key(1)})...)
	for n := range 130 {
		blank := slices.Repeat([][]byte{{0}}, n)
		checkNoTree(t, "blank places", joined(blank))
		checkNoTree(t, "a Parent behind them", joined(append(blank, parent)))
	}
	for x := 1; x < 15; x += 2 {
		list := slices.Repeat([][]byte{{0}}, 15)
		list[x] = parent
		checkNoTree(t, "a Parent alone", joined(list))
		checkNoTree(t, "a Parent alone", joined(list[:x+1]))
	}
}

// P1406: a right half that is blank, but for its Parents, too.
func TestDecodeOfBlankHalf(t *testing.T) {
	one := append([]byte{1, 1}, slowLeaf(leaf(1))...)
	parent := append([]byte{1, 2}, slowParent(nodes.Parent{Enc: key(1)})...)
	for wide := 2; wide <= api.MaxLeaves; wide *= 2 {
		for i := range wide / 2 {
			list := slices.Repeat([][]byte{{0}}, 2*wide-1)
			list[2*i] = one
			for x := wide - 1; x < 2*wide-1; x++ {
				checkNoTree(t, "the right half is blank", joined(list[:x+1]))
				if x%2 == 1 {
					list[x] = parent
					checkNoTree(t, "the right half has a Parent alone", joined(list[:x+1]))
				}
			}
			list[2*wide-2] = one
			if x, e := tree.Decode(joined(list)); e != api.OK || x.Leaves() != wide || !slices.Equal(x.Members(), []int{i, wide - 1}) {
				t.Fatalf("leaf %d of %d: error %d", i, wide, e)
			}
		}
	}
}

// P1406: more leaves than there may be.
func TestDecodeOfTooMany(t *testing.T) {
	full := filled(t, 64)
	full.commit(9)
	list := full.s.list()
	read(t, full.s)
	one := append([]byte{1, 1}, slowLeaf(leaf(1))...)
	parent := append([]byte{1, 2}, slowParent(nodes.Parent{Enc: key(1)})...)
	checkNoTree(t, "a Parent more", joined(append(slices.Clone(list), parent)))
	checkNoTree(t, "a leaf more", joined(append(slices.Clone(list), []byte{0}, one)))
	checkNoTree(t, "twice as many", joined(slices.Concat(list, [][]byte{{0}}, list)))
	checkNoTree(t, "very many", bytes.Repeat(joined(append(slices.Clone(list), []byte{0})), 100))
	checkNoTree(t, "very many blank ones", bytes.Repeat([]byte{1, 0}, 1<<20))
}

// P1406: what stands at a place may not be.
func TestDecodeOfOtherPlaces(t *testing.T) {
	p := changed(t)
	list := p.s.list()
	anyLeaf, anyParent := slowLeaf(leaf(1)), slowParent(nodes.Parent{Enc: key(1)})
	for x := range list {
		good, bad, kind := anyLeaf, anyParent, byte(1)
		if x%2 == 1 {
			good, bad, kind = anyParent, anyLeaf, 2
		}
		other := 3 - kind
		for name, place := range map[string][]byte{
			"the other's bytes, as the other": append([]byte{1, other}, bad...),
			"the other's bytes":               append([]byte{1, kind}, bad...),
			"its bytes, as the other":         append([]byte{1, other}, good...),
			"no kind":                         append([]byte{1}, good...),
			"kind 0":                          append([]byte{1, 0}, good...),
			"kind 3":                          append([]byte{1, 3}, good...),
			"kind 255":                        append([]byte{1, 255}, good...),
			"blank, and bytes":                append([]byte{0, kind}, good...),
			"blank twice":                     {0, 0},
			"neither blank nor not":           append([]byte{2, kind}, good...),
			"neither, alone":                  {2},
			"no bytes":                        {},
			"not blank, alone":                {1},
			"a kind alone":                    {1, kind},
			"bytes too few":                   append([]byte{1, kind}, good[:len(good)-1]...),
			"bytes too many":                  append(append([]byte{1, kind}, good...), 0),
			"twice":                           slices.Concat([]byte{1, kind}, good, good),
		} {
			some := slices.Clone(list)
			some[x] = place
			checkNoTree(t, name, joined(some))
		}
		some := slices.Clone(list)
		some[x] = append([]byte{1, kind}, good...)
		if _, e := tree.Decode(joined(some)); e != api.OK {
			t.Errorf("place %d: error %d", x, e)
		}
	}
}

// P1406: a leaf or a Parent that may not be.
func TestDecodeOfBadNodes(t *testing.T) {
	for _, l := range badLeaves() {
		if l.Source >= 0 && (l.Source == nodes.Committed || len(l.Hash) == 0) { // else its bytes are another one's
			checkNoTree(t, "a leaf", joined([][]byte{append([]byte{1, 1}, slowLeaf(l)...)}))
		}
	}
	p := filled(t, 2)
	p.commit(0)
	for _, q := range []nodes.Parent{{}, {Enc: key(1)[:31]}, {Enc: key(1), Hash: key(2)[:31]}, {Enc: key(1), Unmerged: []int{1, 0}}, {Enc: key(1), Unmerged: []int{1, 1}}, {Enc: key(1), Unmerged: []int{64}}, {Enc: append(key(1), 0)}} {
		s := p.s.copy()
		s.parents[1] = &q
		checkNoTree(t, "a Parent", s.encode())
	}
}

// P1406: lengths in more bytes than they need, and such as there are not.
func TestDecodeOfOtherVectors(t *testing.T) {
	list := filled(t, 3).s.list()
	for at := range list {
		var ahead, behind []byte
		ahead, behind = joined(list[:at]), joined(list[at+1:])
		four := binary.BigEndian.AppendUint32(nil, 0x80000000|uint32(len(list[at])))
		eight := binary.BigEndian.AppendUint64(nil, 0xc000000000000000|uint64(len(list[at])))
		checkNoTree(t, "a length of four bytes", slices.Concat(ahead, four, list[at], behind))
		checkNoTree(t, "a length of eight bytes", slices.Concat(ahead, eight, list[at], behind))
		if len(list[at]) < 64 {
			checkNoTree(t, "a length of two bytes", slices.Concat(ahead, []byte{64, byte(len(list[at]))}, list[at], behind))
		}
		checkNoTree(t, "no length", slices.Concat(ahead, list[at], behind))
		checkNoTree(t, "a length that is too great", slices.Concat(ahead, []byte{0xbf, 255, 255, 255}, list[at], behind))
	}
	checkNoTree(t, "no vectors", slices.Concat(list...))
	checkNoTree(t, "a vector of all", slowVector(filled(t, 3).x.Encode()))
}

// P1406: of any bytes an error, or what is written as the same bytes: good ones with a byte changed, taken out or put in.
func TestBackAndThere(t *testing.T) {
	random := rand.New(rand.NewSource(9))
	got := 0
	for _, p := range append(grown(t, 10, 10), changed(t), unmerged(t)) {
		b := p.x.Encode()
		if len(b) == 0 {
			continue
		}
		for range 300 {
			at, x := random.Intn(len(b)), []byte{0, 1, 2, 3, 4, 31, 32, 33, 63, 64, 128, 255, byte(random.Intn(256))}[random.Intn(13)]
			other := bytes.Clone(b)
			other[at] = x
			got += checkSameBytes(t, other)
			got += checkSameBytes(t, slices.Delete(bytes.Clone(b), at, at+1))
			got += checkSameBytes(t, slices.Insert(bytes.Clone(b), at, x))
		}
	}
	if got < 500 {
		t.Errorf("only %d of the changed ones were read", got)
	}
	for n := range 5000 {
		checkSameBytes(t, slices.Concat(key(n), key(n+1))[:n%64])
	}
}

// checkSameBytes: how many trees b is, 1 or 0.
func checkSameBytes(t *testing.T, b []byte) int {
	t.Helper()
	x, e := tree.Decode(b)
	if e == api.ErrForm && x == nil {
		return 0
	}
	if e != api.OK || !bytes.Equal(x.Encode(), b) || len(x.Members()) == 0 {
		t.Fatalf("error %d of %x", e, b)
	}
	return 1
}
