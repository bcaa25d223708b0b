package gcm

import (
	"slices"
	"testing"
)

// P903: a length is the same of either kind of text, in bytes and not in runes.
func TestBitsOfEitherKind(t *testing.T) {
	for text, want := range map[string]uint64{"": 0, "a": 8, "é": 16, "sixteen bytes ..": 128} {
		if bitsOf(text) != want || bitsOf([]byte(text)) != want {
			t.Errorf("%q: %d, %d", text, bitsOf(text), bitsOf([]byte(text)))
		}
	}
	if bitsOf(make([]byte, 1<<16)) != 1<<19 {
		t.Error("of many")
	}
}

// P902: blocks are told of each list by itself, none of an empty one, and no more than are asked for.
func TestBlocks(t *testing.T) {
	one, two := block{1 << 56}, block{2 << 56}
	lists := [][]byte{{1}, nil, {0, 0, 0, 0, 0, 0, 0, 0, 0, 0, 0, 0, 0, 0, 0, 0, 2}, {}}
	if got := slices.Collect(blocks(lists...)); !slices.Equal(got, []block{one, {}, two}) {
		t.Errorf("%v", got)
	}
	for b := range blocks(lists...) {
		if b != one {
			t.Errorf("%v behind the end", b)
		}
		break
	}
}
