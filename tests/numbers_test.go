package tests

import (
	"math"
	"slices"
	"testing"

	"loop.example/stileway/impl"
)

// noMixed are numbers that are no mixed ones, at both ends and far off.
func noMixed() []int {
	return []int{-1, impl.MixMax, impl.MixMax + 1, -impl.MixMax, math.MinInt, math.MaxInt}
}

// row is numbers that look like chance, the same ones at each run.
type row struct{ state uint64 }

func (r *row) below(n int) int {
	r.state = r.state*6364136223846793005 + 1442695040888963407
	return int((r.state >> 33) % uint64(n))
}

// leaves is n mixed numbers; some of them are the least and the greatest one, and those that mix alike with anything.
func (r *row) leaves(n int) []int {
	list := make([]int, n)
	for i := range list {
		switch r.below(8) {
		case 0:
			list[i] = 0
		case 1:
			list[i] = impl.MixMax - 1
		case 2:
			list[i] = deafLeft
		case 3:
			list[i] = deafRight
		default:
			list[i] = r.below(impl.MixMax)
		}
	}
	return list
}

// With deafLeft on the left MixPair hangs on nothing on the right, and with deafRight on the right on nothing on the left.
const (
	deafLeft  = impl.MixMax - 127
	deafRight = impl.MixMax - 8191
)

func sameList[T comparable](t *testing.T, what string, got []T, want []T) {
	t.Helper()
	if !slices.Equal(got, want) {
		t.Fatalf("%s: got %v, want %v", what, got, want)
	}
}

// with is a list with something else at a place.
func with[T any](list []T, i int, other T) []T {
	turned := slices.Clone(list)
	turned[i] = other
	return turned
}

// inverse is what a number, no multiple of MixMax, is multiplied by to be 1 mod MixMax, which is a prime.
func inverse(n int) int {
	power, base := 1, n%impl.MixMax
	for e := impl.MixMax - 2; e > 0; e /= 2 {
		if e%2 == 1 {
			power = power * base % impl.MixMax
		}
		base = base * base % impl.MixMax
	}
	return power
}

// rightOf is what stands on the right of a number, so that both mix to a root; false, if any number does, or none.
func rightOf(left int, root int) (int, bool) {
	if left == deafLeft {
		return 0, false
	}
	rest := (root - 31 - left*8191) % impl.MixMax
	return (rest + impl.MixMax) % impl.MixMax * inverse(left+127) % impl.MixMax, true
}

// leftOf is what stands on the left of a number, so that both mix to a root; false, if any number does, or none.
func leftOf(right int, root int) (int, bool) {
	if right == deafRight {
		return 0, false
	}
	rest := (root - 31 - right*127) % impl.MixMax
	return (rest + impl.MixMax) % impl.MixMax * inverse(right+8191) % impl.MixMax, true
}
