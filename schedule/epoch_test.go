package schedule_test

import (
	"bytes"
	"testing"

	"synod/api"
	"synod/schedule"
)

// lengths: that secrets may have: all, for the chapter names none that may not be.
var lengths = []int{0, 1, 16, 31, 32, 33, 63, 64, 65, 200, 1000, api.MaxBytes + 9}

// P1604: Joiner against the words.
func TestJoiner(t *testing.T) {
	check := func(init, commit []byte, c schedule.Context) {
		t.Helper()
		want := slowExpand(t, slowExtract(t, init, commit), "joiner", slowContext(c), 32)
		if got, e := schedule.Joiner(init, commit, c); e != api.OK || !bytes.Equal(got, want) {
			t.Errorf("of %d and %d bytes, epoch %d: %x, not %x, error %d", len(init), len(commit), c.Epoch, got, want, e)
		}
	}
	for _, c := range contexts() {
		check(sample(1, 32), sample(2, 32), c)
	}
	for _, n := range lengths {
		check(sample(1, n), sample(2, 32), context(7, 3, 32, 32))
		check(sample(1, 32), sample(2, n), context(7, 3, 32, 32))
		check(sample(1, n), sample(2, n), schedule.Context{})
	}
}

func checkEpoch(t *testing.T, joiner, psk []byte, c schedule.Context) schedule.Secrets {
	t.Helper()
	got, e := schedule.Epoch(joiner, psk, c)
	if want := slowEpoch(t, joiner, psk, c); e != api.OK || !sameSecrets(got, want) {
		t.Errorf("of %d and %d bytes, epoch %d: %x, not %x, error %d", len(joiner), len(psk), c.Epoch, got, want, e)
	}
	return got
}

// P1604: Epoch against the words.
func TestEpoch(t *testing.T) {
	for _, c := range contexts() {
		checkEpoch(t, sample(1, 32), sample(2, 32), c)
	}
	for _, n := range lengths {
		checkEpoch(t, sample(1, n), sample(2, 32), context(7, 3, 32, 32))
		checkEpoch(t, sample(1, 32), sample(2, n), context(7, 3, 32, 32))
		checkEpoch(t, sample(1, n), sample(2, n), schedule.Context{})
	}
}

// P1604: no two secrets of an epoch are the same, and none is one of another epoch.
func TestSecretsAreUnlike(t *testing.T) {
	seen := map[string]bool{}
	for i, c := range []schedule.Context{{}, {Epoch: 1}, {Group: []byte("g")}, {Tree: []byte("g")}, {Transcript: []byte("g")}} {
		s := checkEpoch(t, sample(int64(i), 32), sample(2, 32), c)
		for j, list := range secretLists(&s) {
			if len(*list) != 32 || seen[string(*list)] {
				t.Errorf("context %d, secret %d: %x", i, j, *list)
			}
			seen[string(*list)] = true
		}
	}
}

// P1604: a Context that may not be.
func TestBadContexts(t *testing.T) {
	for _, c := range badContexts() {
		for _, n := range []int{0, 32, 100} {
			if b, e := schedule.Joiner(sample(1, n), sample(2, n), c); e != api.ErrArg || len(b) != 0 {
				t.Errorf("Joiner of epoch %d: %x, error %d", c.Epoch, b, e)
			}
			if s, e := schedule.Epoch(sample(1, n), sample(2, n), c); e != api.ErrArg || !sameSecrets(s, schedule.Secrets{}) {
				t.Errorf("Epoch of epoch %d: %x, error %d", c.Epoch, s, e)
			}
		}
	}
}

// P1604, P1607: Welcome against the words, and against the Welcome of epochs of any context.
func TestWelcome(t *testing.T) {
	for _, n := range lengths {
		for _, m := range []int{0, 32, n} {
			joiner, psk := sample(1, n), sample(2, m)
			w := slowDerive(t, slowExtract(t, joiner, psk), "welcome")
			key, nonce := schedule.Welcome(joiner, psk)
			if !bytes.Equal(key, slowExpand(t, w, "key", nil, 16)) || !bytes.Equal(nonce, slowExpand(t, w, "nonce", nil, 12)) {
				t.Errorf("of %d and %d bytes: %x, %x", n, m, key, nonce)
			}
			for _, c := range contexts()[:20] {
				if s, e := schedule.Epoch(joiner, psk, c); e != api.OK || !bytes.Equal(s.Welcome, w) {
					t.Errorf("epoch %d: %x, not %x, error %d", c.Epoch, s.Welcome, w, e)
				}
			}
		}
	}
}

// P1607: the same arguments, the same secrets; with another one all are others, but what hangs on fewer.
func TestEpochHangsOnItsArguments(t *testing.T) {
	joiner, psk, c := sample(1, 32), sample(2, 32), context(7, 3, 32, 32)
	first := checkEpoch(t, joiner, psk, c)
	compare := func(what string, joiner, psk []byte, c schedule.Context, welcome, sameJoiner bool) {
		t.Helper()
		s := checkEpoch(t, joiner, psk, c)
		mine, theirs := secretLists(&first), secretLists(&s)
		last := len(mine) - 1
		for i := range mine {
			want := i == last-1 && welcome || i == last && sameJoiner
			if bytes.Equal(*mine[i], *theirs[i]) != want {
				t.Errorf("%s: secret %d: %x, %x", what, i, *mine[i], *theirs[i])
			}
		}
	}
	compare("another joiner", flipped(joiner, 0), psk, c, false, false)
	compare("another key", joiner, flipped(psk, 255), c, false, true)
	for i := range contextLists(&c) {
		other := c
		list := contextLists(&other)[i]
		*list = flipped(*list, 8*len(*list)-1)
		compare("another list of the context", joiner, psk, other, true, true)
	}
	other := c
	other.Epoch++
	compare("another number", joiner, psk, other, true, true)
	if again := checkEpoch(t, joiner, psk, c); !sameSecrets(first, again) {
		t.Errorf("%x, %x", first, again)
	}
}
