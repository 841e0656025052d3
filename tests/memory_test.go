package tests

import (
	"slices"
	"testing"

	"loop.example/stileway/impl"
)

// guard is a list in the middle of a greater one, so that what is written ahead of it, into it or behind its end is seen.
type guard struct {
	whole, before []int
	from, to      int
}

func guarded(list []int) *guard {
	g := &guard{from: 3, to: 3 + len(list)}
	g.whole = slices.Concat([]int{-91, -92, -93}, list, []int{-94, -95, -96, -97, -98, -99, -90, -89, -88})
	g.before = slices.Clone(g.whole)
	return g
}

// list is the list, with the rest of the greater one as its spare room.
func (g *guard) list() []int {
	return g.whole[g.from:g.to]
}

func (g *guard) untouched(t *testing.T, what string) {
	t.Helper()
	if !slices.Equal(g.whole, g.before) {
		t.Fatalf("%s: what was given is now %v, it was %v", what, g.whole, g.before)
	}
}

// spoil writes all over an answer, its spare room included.
func spoil(answer []int) {
	answer = answer[:cap(answer)]
	for i := range answer {
		answer[i] = -77
	}
}

// newMemory makes a call twice and spoils what it answered first: neither what was given nor the second answer may turn by that.
func newMemory(t *testing.T, what string, call func() []int, given ...*guard) {
	t.Helper()
	first := call()
	for _, g := range given {
		g.untouched(t, what)
	}
	want := slices.Clone(first)
	second := call()
	spoil(first)
	for _, g := range given {
		g.untouched(t, what+", its answer written over")
	}
	sameList(t, what+", the second answer", second, want)
	sameList(t, what+", once more", call(), want)
}

func TestMemoryOfNumbers(t *testing.T) {
	for n := range impl.TreMax + 3 {
		g := guarded((&row{20}).leaves(n))
		newMemory(t, "MixLeaf", func() []int { return []int{impl.MixLeaf(g.list())} }, g)
		newMemory(t, "TreRoot", func() []int { return []int{impl.TreRoot(g.list())} }, g)
		impl.TreOk(g.list())
		g.untouched(t, "TreOk")
		for i := -1; i <= n; i++ {
			impl.TreUp(n, i, 9, g.list())
			g.untouched(t, "TreUp")
			impl.TreCheck(9, n, i, 9, g.list())
			g.untouched(t, "TreCheck")
		}
	}
}

func TestMemoryOfProofs(t *testing.T) {
	for n := range impl.TreMax + 3 {
		g := guarded((&row{21}).leaves(n))
		for i := -1; i <= n; i++ {
			newMemory(t, "TreProof", func() []int { return impl.TreProof(g.list(), i) }, g)
		}
	}
	everyLeaf(22, func(r *row, list []int, i int) {
		g := guarded(impl.TreProof(list, i))
		impl.TreUp(len(list), i, list[i], g.list())
		g.untouched(t, "TreUp")
		impl.TreCheck(impl.TreRoot(list), len(list), i, list[i], g.list())
		g.untouched(t, "TreCheck")
	})
}

func TestMemoryOfClashes(t *testing.T) {
	everyLeaf(23, func(r *row, list []int, i int) {
		leaves := guarded(list)
		for at := range ladder(list, i) {
			leaf := (list[i] + 1) % impl.MixMax
			proof, _, ok := forged(r, list, i, leaf, at)
			if ok {
				beside := guarded(proof)
				newMemory(t, "TreClash", func() []int { return impl.TreClash(leaves.list(), i, leaf, beside.list()) }, leaves, beside)
			}
		}
		beside := guarded(impl.TreProof(list, i))
		newMemory(t, "TreClash", func() []int { return impl.TreClash(leaves.list(), i, list[i], beside.list()) }, leaves, beside)
	})
}

func TestMemoryOfGrowth(t *testing.T) {
	for n := range impl.TreMax + 3 {
		leaves := guarded((&row{24}).leaves(n))
		for m := -1; m <= n+1; m++ {
			newMemory(t, "ConProof", func() []int { return impl.ConProof(leaves.list(), m) }, leaves)
			proof := guarded(impl.ConProof(leaves.list(), m))
			for _, old := range []int{-1, 9, impl.TreRoot(leaves.list()[:max(0, min(m, n))])} {
				impl.ConCheck(m, old, n, impl.TreRoot(leaves.list()), proof.list())
				proof.untouched(t, "ConCheck")
				impl.ConCheck(m, old, n, old, leaves.list())
				leaves.untouched(t, "ConCheck")
			}
		}
	}
}
