package labels

import (
	"strings"
	"testing"

	"synod/api"
	"synod/codec"
)

// texts: all of at most n of these letters, some of which look like lengths.
func texts(letters string, n int) []string {
	out := []string{""}
	from := 0
	for range n {
		end := len(out)
		for _, text := range out[from:end] {
			for i := range len(letters) {
				out = append(out, text+letters[i:i+1])
			}
		}
		from = end
	}
	return out
}

// P1503: of all short pairs no two are labelled alike, nor named alike.
func TestUnlikePairs(t *testing.T) {
	short := texts("\x00\x01\x02\x08\x09M", 2)
	labelled, named := map[string]bool{}, map[string]bool{}
	for _, label := range short {
		for _, content := range short {
			one, e := purpose(label).labelled([]byte(content))
			two, f := purpose(label).named([]byte(content))
			if e != api.OK || f != api.OK || labelled[string(one)] || named[string(two)] {
				t.Fatalf("%q, %q: %x, %x, errors %d, %d", label, content, one, two, e, f)
			}
			labelled[string(one)], named[string(two)] = true, true
		}
	}
}

// P1503: pairs that together have the same bytes, over all lengths at which a vector's form changes.
func TestCutOtherwise(t *testing.T) {
	for _, whole := range []string{strings.Repeat("a", 150), strings.Repeat("\x00", 150), strings.Repeat("\x01a", 75), strings.Repeat("MLS 1.0 ", 20), strings.Repeat("\x40\x41", 75)} {
		labelled, named := map[string]bool{}, map[string]bool{}
		for at := range len(whole) + 1 {
			one, e := purpose(whole[:at]).labelled([]byte(whole[at:]))
			two, f := purpose(whole[:at]).named([]byte(whole[at:]))
			if e != api.OK || f != api.OK || labelled[string(one)] || named[string(two)] {
				t.Fatalf("cut at %d: errors %d, %d", at, e, f)
			}
			labelled[string(one)], named[string(two)] = true, true
		}
	}
}

// P1503: from what is labelled the pair can be told, so that no other one is labelled so; at all edges of lengths.
func TestPairsCanBeTold(t *testing.T) {
	whole := strings.Repeat("\x00\x01\x40MLS 1.0 \x80\xff", 6000)
	lengths := []int{0, 1, 55, 56, 63, 64, 65, 16375, 16376, 16383, 16384, most - 1, most}
	for _, n := range lengths {
		for _, m := range lengths {
			label, content := whole[:n], whole[1:1+m]
			checkTold(t, purpose(label).labelled, "MLS 1.0 "+label, content)
			checkTold(t, purpose(label).named, label, content)
		}
	}
}

func checkTold(t *testing.T, write func([]byte) ([]byte, api.Errno), label, content string) {
	t.Helper()
	b, e := write([]byte(content))
	r := codec.New(b)
	one, two := r.Vector(), r.Vector()
	if e != api.OK || r.End() != api.OK || string(one) != label || string(two) != content {
		t.Errorf("of %d and %d bytes: told as %d and %d, errors %d, %d", len(label), len(content), len(one), len(two), e, r.End())
	}
}
