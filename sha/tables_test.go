package sha

import (
	"math/big"
	"testing"
)

func firstPrimes(n int) []int64 {
	var out []int64
	for k := int64(2); len(out) < n; k++ {
		if big.NewInt(k).ProbablyPrime(0) {
			out = append(out, k)
		}
	}
	return out
}

// behindPoint: whether x is the first 64 bits behind the point of p's root of that degree: the greatest r with r^degree <= p * 2^(64*degree) has x as its lowest 64 bits.
func behindPoint(x uint64, p, degree int64) bool {
	whole := int64(1)
	for pow(big.NewInt(whole+1), degree).Cmp(big.NewInt(p)) <= 0 {
		whole++
	}
	root := new(big.Int).Lsh(big.NewInt(whole), 64)
	root.Or(root, new(big.Int).SetUint64(x))
	goal := new(big.Int).Lsh(big.NewInt(p), uint(64*degree))
	next := new(big.Int).Add(root, big.NewInt(1))
	return pow(root, degree).Cmp(goal) <= 0 && pow(next, degree).Cmp(goal) > 0
}

func pow(x *big.Int, n int64) *big.Int { return new(big.Int).Exp(x, big.NewInt(n), nil) }

// P102: the constants are those of the roots of the primes.
func TestTablesAreRootsOfPrimes(t *testing.T) {
	for i, p := range firstPrimes(len(cubes)) {
		if !behindPoint(cubes[i], p, 3) {
			t.Errorf("cube root of %d: %x", p, cubes[i])
		}
	}
	for i, p := range firstPrimes(len(squares)) {
		if !behindPoint(squares[i], p, 2) {
			t.Errorf("square root of %d: %x", p, squares[i])
		}
	}
}

// P102: of any number of bytes, also of those that no test can hand in, the padding is as short as it may be and ends with the number of bits.
func TestPadding(t *testing.T) {
	for _, r := range []rules{narrowRules, wideRules} {
		block, tail := r.width*2, r.width/4
		for _, from := range []int{0, 1 << 31, 1<<61 - 1, 1 << 61, 1<<62 + 5} {
			for count := from; count < from+2*block; count++ {
				checkPadding(t, padding(r, count), count, block, tail)
			}
		}
	}
}

func checkPadding(t *testing.T, got []byte, count, block, tail int) {
	t.Helper()
	if (count%block+len(got))%block != 0 || len(got) < 1+tail || len(got) > block+tail {
		t.Fatalf("count %d, block %d: %d bytes of padding", count, block, len(got))
	}
	want := make([]byte, len(got))
	want[0] = 128
	number := new(big.Int).Lsh(big.NewInt(int64(count)), 3)
	number.Mod(number, new(big.Int).Lsh(big.NewInt(1), uint(8*tail)))
	number.FillBytes(want[len(want)-tail:])
	if string(got) != string(want) {
		t.Fatalf("count %d, block %d: padding %v, want %v", count, block, got, want)
	}
}
