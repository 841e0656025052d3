package tests

import (
	"slices"
	"testing"

	"loop.example/stileway/impl"
)

// guard is a list in the middle of a greater one, so that what is written ahead of it, into it or behind its end is seen.
type guard[T comparable] struct {
	whole, before []T
	from, to      int
}

// untouched is what each guard can be asked, whatever its list is of.
type untouched interface {
	untouched(t *testing.T, what string)
}

// junk is what no call writes by itself.
func junk[T any](n int) T {
	var j T
	switch p := any(&j).(type) {
	case *int:
		*p = -91 - n
	case *impl.EntEntry:
		*p = impl.EntEntry{Kind: -91 - n, Ticket: -92, Who: -93, Price: -94}
	case *impl.OwnRow:
		*p = impl.OwnRow{Who: -91 - n, Face: -92, Used: true}
	}
	return j
}

func guarded[T comparable](list []T) *guard[T] {
	g := &guard[T]{from: 3, to: 3 + len(list)}
	for n := range g.from {
		g.whole = append(g.whole, junk[T](n))
	}
	g.whole = append(g.whole, list...)
	for n := range 9 {
		g.whole = append(g.whole, junk[T](g.from+n))
	}
	g.before = slices.Clone(g.whole)
	return g
}

// list is the list, with the rest of the greater one as its spare room.
func (g *guard[T]) list() []T {
	return g.whole[g.from:g.to]
}

func (g *guard[T]) untouched(t *testing.T, what string) {
	t.Helper()
	if !slices.Equal(g.whole, g.before) {
		t.Fatalf("%s: what was given is now %v, it was %v", what, g.whole, g.before)
	}
}

// spoil writes all over an answer, its spare room included.
func spoil[T any](answer []T) {
	answer = answer[:cap(answer)]
	for i := range answer {
		answer[i] = junk[T](-14)
	}
}

// newMemory makes a call twice and spoils what it answered first: neither what was given nor the second answer may turn by that.
func newMemory[T comparable](t *testing.T, what string, call func() []T, given ...untouched) {
	t.Helper()
	first := call()
	for _, g := range given {
		g.untouched(t, what)
	}
	want := slices.Clone(first)
	second := call()
	spoil(first)
	for _, g := range given {
		g.untouched(t, what+", its answer written over")
	}
	sameList(t, what+", the second answer", second, want)
	sameList(t, what+", once more", call(), want)
}

func TestMemoryOfNumbers(t *testing.T) {
	for n := range impl.TreMax + 3 {
		g := guarded((&row{20}).leaves(n))
		newMemory(t, "MixLeaf", func() []int { return []int{impl.MixLeaf(g.list())} }, g)
		newMemory(t, "TreRoot", func() []int { return []int{impl.TreRoot(g.list())} }, g)
		impl.TreOk(g.list())
		g.untouched(t, "TreOk")
		for i := -1; i <= n; i++ {
			impl.TreUp(n, i, 9, g.list())
			g.untouched(t, "TreUp")
			impl.TreCheck(9, n, i, 9, g.list())
			g.untouched(t, "TreCheck")
		}
	}
}

func TestMemoryOfProofs(t *testing.T) {
	for n := range impl.TreMax + 3 {
		g := guarded((&row{21}).leaves(n))
		for i := -1; i <= n; i++ {
			newMemory(t, "TreProof", func() []int { return impl.TreProof(g.list(), i) }, g)
		}
	}
	everyLeaf(22, func(r *row, list []int, i int) {
		g := guarded(impl.TreProof(list, i))
		impl.TreUp(len(list), i, list[i], g.list())
		g.untouched(t, "TreUp")
		impl.TreCheck(impl.TreRoot(list), len(list), i, list[i], g.list())
		g.untouched(t, "TreCheck")
	})
}

func TestMemoryOfClashes(t *testing.T) {
	everyLeaf(23, func(r *row, list []int, i int) {
		leaves := guarded(list)
		for at := range ladder(list, i) {
			leaf := (list[i] + 1) % impl.MixMax
			proof, _, ok := forged(r, list, i, leaf, at)
			if ok {
				beside := guarded(proof)
				newMemory(t, "TreClash", func() []int { return impl.TreClash(leaves.list(), i, leaf, beside.list()) }, leaves, beside)
			}
		}
		beside := guarded(impl.TreProof(list, i))
		newMemory(t, "TreClash", func() []int { return impl.TreClash(leaves.list(), i, list[i], beside.list()) }, leaves, beside)
	})
}

func TestMemoryOfGrowth(t *testing.T) {
	for n := range impl.TreMax + 3 {
		leaves := guarded((&row{24}).leaves(n))
		for m := -1; m <= n+1; m++ {
			newMemory(t, "ConProof", func() []int { return impl.ConProof(leaves.list(), m) }, leaves)
			proof := guarded(impl.ConProof(leaves.list(), m))
			for _, old := range []int{-1, 9, impl.TreRoot(leaves.list()[:max(0, min(m, n))])} {
				impl.ConCheck(m, old, n, impl.TreRoot(leaves.list()), proof.list())
				proof.untouched(t, "ConCheck")
				impl.ConCheck(m, old, n, old, leaves.list())
				leaves.untouched(t, "ConCheck")
			}
		}
	}
}

func TestMemoryOfEntries(t *testing.T) {
	r := &row{25}
	for n := range impl.TreMax + 3 {
		g := guarded(r.entries(n))
		newMemory(t, "EntLeaves", func() []int { return impl.EntLeaves(g.list()) }, g)
		for ticket := -1; ticket <= impl.TikMax; ticket++ {
			newMemory(t, "EntAbout", func() []impl.EntEntry { return impl.EntAbout(g.list(), ticket) }, g)
		}
	}
	one := guarded([]impl.EntEntry{{Kind: impl.EntEnter, Ticket: 3, Who: 2}})
	newMemory(t, "EntAbout, all of it", func() []impl.EntEntry { return impl.EntAbout(one.list(), 3) }, one)
}

func TestMemoryOfFolds(t *testing.T) {
	r := &row{26}
	for n := range impl.TreMax + 3 {
		for _, list := range [][]impl.EntEntry{r.log(n), r.entries(n)} {
			g := guarded(list)
			newMemory(t, "OwnFold", func() []impl.OwnRow { rows, _ := impl.OwnFold(g.list()); return rows }, g)
		}
	}
}

func TestMemoryOfRows(t *testing.T) {
	r := &row{27}
	for n := range 2 * impl.TikMax {
		for _, rows := range [][]impl.OwnRow{r.rows(n), r.anyRows(n)} {
			g := guarded(rows)
			for _, e := range []impl.EntEntry{{Kind: 1, Ticket: r.below(8), Who: 2, Price: 5}, {Kind: 2, Ticket: r.below(8), Who: 1, Price: 1}, {Kind: 3, Ticket: r.below(8), Who: 1 + r.below(5)}, {}} {
				newMemory(t, "OwnPut", func() []impl.OwnRow { put, _ := impl.OwnPut(g.list(), e); return put }, g)
				impl.OwnFits(g.list(), e)
				g.untouched(t, "OwnFits")
			}
			for i := -1; i <= impl.TikMax; i++ {
				newMemory(t, "OwnProof", func() []int { return impl.OwnProof(g.list(), i) }, g)
				newMemory(t, "OwnOf", func() []int { return impl.OwnOf(g.list(), i) }, g)
				impl.OwnCount(g.list(), i)
				g.untouched(t, "OwnCount")
			}
			impl.OwnOk(g.list())
			impl.OwnRoot(g.list())
			g.untouched(t, "OwnOk and OwnRoot")
		}
	}
}

// What is put may be put upon again, and the rows ahead of it stay what they were.
func TestMemoryOfRowsPutTwice(t *testing.T) {
	r := &row{28}
	list := r.log(impl.TreMax)
	ahead := make([]impl.OwnRow, impl.TikMax)
	for i, e := range list {
		g := guarded(ahead)
		rows, ok := impl.OwnPut(g.list(), e)
		if !ok {
			t.Fatalf("%v may not follow as the %d of %v", e, i, list)
		}
		want := slices.Clone(rows)
		spoilt, _ := impl.OwnPut(rows, impl.EntEntry{Kind: impl.EntPass, Ticket: e.Ticket, Who: 1 + e.Who%impl.UsrMax, Price: 1})
		spoil(spoilt)
		sameList(t, "rows that were put upon", rows, want)
		g.untouched(t, "OwnPut")
		ahead = rows
	}
}

func TestMemoryOfOwnProofs(t *testing.T) {
	r := &row{29}
	for range 20 {
		rows := r.rows(impl.TikMax)
		for ticket := -1; ticket <= impl.TikMax; ticket++ {
			for _, proof := range [][]int{impl.OwnProof(rows, ticket), r.leaves(3), r.leaves(r.below(6)), noMixed()} {
				g := guarded(proof)
				impl.OwnCheck(impl.OwnRoot(rows), ticket, rows[0], g.list())
				g.untouched(t, "OwnCheck")
			}
		}
	}
}
