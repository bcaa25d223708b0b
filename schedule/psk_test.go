package schedule_test

import (
	"bytes"
	"slices"
	"testing"

	"synod/api"
	"synod/schedule"
)

// psk: a key with lists of so many bytes.
func psk(id, nonce, key int) schedule.Psk {
	return schedule.Psk{ID: sample(int64(id), id), Nonce: sample(int64(300+nonce), nonce), Key: sample(int64(600+key), key)}
}

// psks: n unlike ones.
func psks(n int) []schedule.Psk {
	var out []schedule.Psk
	for i := range n {
		out = append(out, schedule.Psk{ID: []byte{byte(i)}, Nonce: sample(int64(i), 32), Key: sample(int64(i), i%40)})
	}
	return out
}

func checkPskSecret(t *testing.T, l []schedule.Psk) {
	t.Helper()
	if got, e := schedule.PskSecret(l); e != api.OK || !bytes.Equal(got, slowPskSecret(t, l)) {
		t.Errorf("of %d: %x, error %d", len(l), got, e)
	}
}

// The chapter's example, and P1608.
func TestPskSecretOfNothing(t *testing.T) {
	for _, l := range [][]schedule.Psk{nil, {}, psks(3)[:0]} {
		if got, e := schedule.PskSecret(l); e != api.OK || !bytes.Equal(got, make([]byte, 32)) {
			t.Errorf("%x, error %d", got, e)
		}
	}
}

// P1608: no keys at all are 32 zeros to an epoch and a welcome, too, and one key that is nothing is not no key.
func TestNoKeysAreZeros(t *testing.T) {
	none, _ := schedule.PskSecret(nil)
	zeros := make([]byte, 32)
	one, e := schedule.Epoch(sample(1, 32), none, schedule.Context{})
	two, f := schedule.Epoch(sample(1, 32), zeros, schedule.Context{})
	if e != api.OK || f != api.OK || !sameSecrets(one, two) {
		t.Errorf("%v, %v", one, two)
	}
	empty, e := schedule.PskSecret([]schedule.Psk{{}})
	if e != api.OK || len(empty) != 32 || bytes.Equal(empty, zeros) {
		t.Errorf("%x, error %d", empty, e)
	}
}

// P1603: against the words, of many keys.
func TestPskSecret(t *testing.T) {
	for _, n := range []int{1, 2, 3, 4, 5, 10, 64, 99, 100} {
		checkPskSecret(t, psks(n))
		checkPskSecret(t, make([]schedule.Psk, n))
	}
}

// P1603: against the words, lists of all lengths at the edges.
func TestPskSecretOfLengths(t *testing.T) {
	for _, n := range []int{0, 1, 31, 32, 33, 62, 63, 64, 65, 127, 128, 254, 255} {
		checkPskSecret(t, []schedule.Psk{psk(n, 32, 32)})
		checkPskSecret(t, []schedule.Psk{psk(8, n, 32)})
		checkPskSecret(t, []schedule.Psk{psk(8, 32, n)})
		checkPskSecret(t, []schedule.Psk{psk(1, 2, 3), psk(n, n, n), psk(4, 5, 6)})
	}
	for _, n := range []int{256, 1000, 16383, 16384, maxKey - 1, maxKey} {
		checkPskSecret(t, []schedule.Psk{psk(8, 32, n)})
		checkPskSecret(t, []schedule.Psk{psk(255, 255, n), psk(255, 255, n)})
	}
}

func checkNoPskSecret(t *testing.T, what string, l []schedule.Psk) {
	t.Helper()
	if b, e := schedule.PskSecret(l); e != api.ErrArg || len(b) != 0 {
		t.Errorf("%s, of %d: %x, error %d", what, len(l), b, e)
	}
}

// P1603: too many, and one that is too long, wherever it stands.
func TestPskSecretRefused(t *testing.T) {
	for _, n := range []int{101, 102, 200, 256, 257, 1000, 65536, 65537, 65636} {
		checkNoPskSecret(t, "too many", make([]schedule.Psk, n))
	}
	checkNoPskSecret(t, "too many", psks(101))
	for _, n := range []int{256, 257, 511, 16384, api.MaxBytes, api.MaxBytes + 1, 1 << 20} {
		for _, bad := range []schedule.Psk{psk(n, 32, 32), psk(8, n, 32), psk(n, n, 32)} {
			checkNoPskSecret(t, "an ID or a Nonce", []schedule.Psk{bad})
			for at := range 4 {
				checkNoPskSecret(t, "an ID or a Nonce", slices.Insert(psks(3), at, bad))
			}
			checkNoPskSecret(t, "an ID or a Nonce, the last of many", append(psks(99), bad))
			checkNoPskSecret(t, "and too many", append(psks(100), bad))
		}
	}
	for _, n := range []int{maxKey + 1, api.MaxBytes, api.MaxBytes + 1, 1 << 20} {
		checkNoPskSecret(t, "a Key", []schedule.Psk{psk(8, 32, n)})
		for at := range 4 {
			checkNoPskSecret(t, "a Key", slices.Insert(psks(3), at, psk(8, 32, n)))
		}
	}
}

// P1603: all has weight: each part of each key, their order, and their number.
func TestPskSecretsAreUnlike(t *testing.T) {
	seen := map[string]bool{}
	check := func(what string, l []schedule.Psk) {
		t.Helper()
		b, e := schedule.PskSecret(l)
		if e != api.OK || len(b) != 32 || seen[string(b)] {
			t.Errorf("%s: %x, error %d", what, b, e)
		}
		seen[string(b)] = true
	}
	l := psks(3)
	for n := range 4 {
		check("a beginning", l[:n])
	}
	check("an end", l[1:])
	check("another order", []schedule.Psk{l[1], l[0], l[2]})
	check("another order", []schedule.Psk{l[0], l[2], l[1]})
	check("one twice", []schedule.Psk{l[0], l[0]})
	for i := range l {
		for j := range pskLists(&l[i]) {
			other := slices.Clone(l)
			list := pskLists(&other[i])[j]
			*list = append(bytes.Clone(*list), 1)
			check("a part of a key", other)
		}
	}
	check("a part cut otherwise", []schedule.Psk{{ID: []byte("ab"), Nonce: []byte("c")}})
	check("a part cut otherwise", []schedule.Psk{{ID: []byte("a"), Nonce: []byte("bc")}})
}
