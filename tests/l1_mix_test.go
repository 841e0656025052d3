package tests

import (
	"math"
	"math/big"
	"testing"

	"loop.example/stileway/impl"
)

func TestMixOk(t *testing.T) {
	for _, n := range []int{0, 1, 2, 7, 31, 40000, impl.MixMax - 2, impl.MixMax - 1} {
		if !impl.MixOk(n) {
			t.Errorf("%d is a mixed number", n)
		}
	}
	for _, n := range noMixed() {
		if impl.MixOk(n) {
			t.Errorf("%d is no mixed number", n)
		}
	}
}

// The numbers were worked out from the document, apart from the program.
func TestMixPairKnown(t *testing.T) {
	for _, c := range []struct{ a, b, want int }{
		{0, 0, 31},
		{0, 1, 158},
		{1, 0, 8222},
		{1, 1, 8350},
		{3, 5, 25254},
		{5, 3, 41382},
		{0, impl.MixMax - 1, 65425},
		{impl.MixMax - 1, 0, 57361},
		{impl.MixMax - 1, impl.MixMax - 1, 57235},
		{12345, 54321, 23395},
	} {
		if got := impl.MixPair(c.a, c.b); got != c.want {
			t.Errorf("MixPair(%d, %d): got %d, want %d", c.a, c.b, got, c.want)
		}
	}
}

func TestMixPairWrong(t *testing.T) {
	for _, n := range noMixed() {
		for _, m := range []int{0, 1, 77, impl.MixMax - 1, n} {
			if impl.MixPair(n, m) != 0 || impl.MixPair(m, n) != 0 {
				t.Errorf("MixPair of %d and %d is not 0", n, m)
			}
		}
	}
}

// Promise 20.
func TestMixPairTellsApart(t *testing.T) {
	for _, fixed := range []int{0, 1, 2, 126, 127, 8191, 40000, deafRight - 1, deafRight, deafRight + 1, deafLeft - 1, deafLeft, deafLeft + 1, impl.MixMax - 2, impl.MixMax - 1} {
		left := differing(t, func(n int) int { return impl.MixPair(n, fixed) })
		right := differing(t, func(n int) int { return impl.MixPair(fixed, n) })
		if want := countWanted(fixed == deafRight); left != want {
			t.Errorf("with %d on the right there are %d, not %d", fixed, left, want)
		}
		if want := countWanted(fixed == deafLeft); right != want {
			t.Errorf("with %d on the left there are %d, not %d", fixed, right, want)
		}
	}
}

// countWanted is how many mixed numbers a side makes: all, or one, if the other side is deaf.
func countWanted(deaf bool) int {
	if deaf {
		return 1
	}
	return impl.MixMax
}

// differing is how many numbers a function makes of all mixed ones; each of them must be a mixed one.
func differing(t *testing.T, f func(int) int) int {
	t.Helper()
	seen := make([]bool, impl.MixMax)
	count := 0
	for n := range impl.MixMax {
		m := f(n)
		if !impl.MixOk(m) {
			t.Fatalf("%d is no mixed number", m)
		}
		if !seen[m] {
			seen[m] = true
			count++
		}
	}
	return count
}

// The numbers were worked out from the document, apart from the program.
func TestMixLeafKnown(t *testing.T) {
	for _, c := range []struct {
		list []int
		want int
	}{
		{nil, 217},
		{[]int{}, 217},
		{[]int{0}, 38052},
		{[]int{1}, 38083},
		{[]int{-1}, 38021},
		{[]int{impl.MixMax}, 38052},
		{[]int{-impl.MixMax}, 38052},
		{[]int{impl.MixMax - 1}, 38021},
		{[]int{0, 0}, 31412},
		{[]int{1, 2, 3}, 22718},
		{[]int{3, 2, 1}, 15939},
	} {
		if got := impl.MixLeaf(c.list); got != c.want {
			t.Errorf("MixLeaf(%v): got %d, want %d", c.list, got, c.want)
		}
	}
}

// slowLeaf is MixLeaf as the document has it, in numbers without an end, brought below MixMax once.
func slowLeaf(list []int) int {
	sum := big.NewInt(7)
	for _, n := range list {
		sum.Mul(sum, big.NewInt(4099))
		sum.Add(sum, big.NewInt(int64(n)))
		sum.Add(sum, big.NewInt(11))
	}
	sum.Mul(sum, big.NewInt(31))
	sum.Add(sum, big.NewInt(int64(len(list))))
	return int(sum.Mod(sum, big.NewInt(impl.MixMax)).Int64())
}

// farNumbers are numbers of which MixLeaf may be told, at the edges of what an int is too.
func farNumbers() []int {
	return []int{0, 1, -1, 1000, impl.MixMax - 1, impl.MixMax, impl.MixMax + 1, -impl.MixMax, -impl.MixMax - 1, 1 << 31, -1 << 31, math.MaxInt, math.MaxInt - 1, math.MinInt, math.MinInt + 1}
}

func TestMixLeafOfAny(t *testing.T) {
	r := row{1}
	far := farNumbers()
	for size := range 60 {
		list := make([]int, size)
		for i := range list {
			list[i] = far[r.below(len(far))]
		}
		if got, want := impl.MixLeaf(list), slowLeaf(list); got != want {
			t.Fatalf("MixLeaf(%v): got %d, want %d", list, got, want)
		}
	}
	long := make([]int, impl.MixMax+3)
	if got, want := impl.MixLeaf(long), slowLeaf(long); got != want {
		t.Fatalf("MixLeaf of %d numbers: got %d, want %d", len(long), got, want)
	}
}

// Promise 21.
func TestMixLeafTellsLastApart(t *testing.T) {
	for _, first := range [][]int{nil, {0}, {5, 9}, {math.MinInt, math.MaxInt, -1}} {
		for _, last := range farNumbers() {
			here := impl.MixLeaf(append(first[:len(first):len(first)], last))
			more := impl.MixLeaf(append(first[:len(first):len(first)], last+1))
			less := impl.MixLeaf(append(first[:len(first):len(first)], last-1))
			if !impl.MixOk(here) || !impl.MixOk(more) || !impl.MixOk(less) {
				t.Errorf("of %v and %d: %d, %d, %d are not all mixed numbers", first, last, here, more, less)
			}
			if here == more || here == less {
				t.Errorf("of %v and %d: %d, with one more %d, with one less %d", first, last, here, more, less)
			}
		}
	}
}
