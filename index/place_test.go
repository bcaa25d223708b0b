package index_test

import (
	"math"
	"testing"

	"synod/api"
	"synod/index"
)

// P1204: Place of every place: its level and its column, with no -0.
func TestPlace(t *testing.T) {
	_, spots := drawn(api.MaxLeaves)
	for x := range 127 {
		p := index.Place(x)
		if p != complex(float64(spots[x].level), float64(spots[x].column)) {
			t.Errorf("Place(%d): %v, wanted %d, %d", x, p, spots[x].level, spots[x].column)
		}
		if math.Signbit(real(p)) || math.Signbit(imag(p)) {
			t.Errorf("Place(%d): %v has a part below 0", x, p)
		}
	}
}

// P1204: Place of what is no place.
func TestNoPlace(t *testing.T) {
	for _, x := range odd {
		if p := index.Place(x); p != -1 || math.Signbit(imag(p)) {
			t.Errorf("Place(%d): %v", x, p)
		}
	}
}

// P1204: At of every level and column, also of such that there are not.
func TestAt(t *testing.T) {
	_, spots := drawn(api.MaxLeaves)
	at := map[[2]int]int{}
	for x, s := range spots {
		at[[2]int{s.level, s.column}] = x
	}
	if len(at) != 127 {
		t.Fatal("the tree is not drawn well")
	}
	for level := -3; level < 140; level++ {
		for column := -3; column < 260; column++ {
			want, ok := at[[2]int{level, column}]
			if !ok {
				want = -1
			}
			if got := index.At(complex(float64(level), float64(column))); got != want {
				t.Errorf("At(%d, %d): %d, wanted %d", level, column, got, want)
			}
		}
	}
}

// noParts: what no level and no column is, at any other one.
var noParts = []float64{
	-1, -2, -0.5, -1e-300, -math.SmallestNonzeroFloat64, -1e300, math.Inf(-1), math.NaN(), math.Inf(1),
	math.SmallestNonzeroFloat64, 1e-300, 0.1, 0.5, math.Nextafter(1, 0), math.Nextafter(1, 2), 1.5, 2.25, math.Nextafter(3, 4), 5.999, 6.5, 62.5,
	64, 127, 128, 255, 256, 1 << 31, 1 << 32, 1 << 53, 1 << 62, 1 << 63, 1 << 64, 1e300, math.MaxFloat64,
}

// P1204: At of parts that are not whole numbers, below 0, too great, infinite or not a number.
func TestAtOfNoParts(t *testing.T) {
	check := func(level, column float64) {
		t.Helper()
		if x := index.At(complex(level, column)); x != -1 {
			t.Errorf("At(%v, %v): %d", level, column, x)
		}
	}
	for _, part := range noParts {
		for _, other := range append([]float64{0, 1, 2, 3, 4, 5, 6, 7, 31, 32, 63}, noParts...) {
			check(part, other)
			check(other, part)
		}
	}
	for level := range 7 {
		check(float64(level), float64(int(64)>>level))
	}
	check(7, 0)
	check(63, 0)
}

// P1204: the last column of each level, and parts that are -0, which are 0.
func TestAtOfEdges(t *testing.T) {
	minus := math.Copysign(0, -1)
	for level, want := range []int{126, 125, 123, 119, 111, 95, 63} {
		if x := index.At(complex(float64(level), float64(int(64)>>level-1))); x != want {
			t.Errorf("level %d: the last one is %d", level, x)
		}
		if x := index.At(complex(float64(level), minus)); x != 1<<level-1 {
			t.Errorf("level %d: the first one is %d", level, x)
		}
	}
	if index.At(complex(minus, minus)) != 0 || index.At(complex(minus, 3)) != 6 || index.At(complex(minus, 0)) != 0 {
		t.Error("-0 is not 0")
	}
}

// P1206: At of Place is the place; of what is no place, it is none.
func TestAtOfPlace(t *testing.T) {
	for x := range 127 {
		if got := index.At(index.Place(x)); got != x {
			t.Errorf("%d comes back as %d", x, got)
		}
	}
	for _, x := range odd {
		if got := index.At(index.Place(x)); got != -1 {
			t.Errorf("%d comes back as %d", x, got)
		}
	}
}
