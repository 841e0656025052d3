package tests

import (
	"math"
	"slices"
	"testing"

	"loop.example/stileway/impl"
)

// span is leaves that lie together, as places from one on up to, and without, another one.
type span struct{ from, to int }

// slowSpans is the leaves below each number of ConProof, found from the outermost part down.
func slowSpans(m int, n int) []span {
	var spans []span
	part, alone := span{0, n}, true
	for part.to != m {
		k := part.from + slowSplit(part.to-part.from)
		if m <= k {
			spans = append(spans, span{k, part.to})
			part.to = k
		} else {
			spans = append(spans, span{part.from, k})
			part.from, alone = k, false
		}
	}
	if !alone {
		spans = append(spans, part)
	}
	slices.Reverse(spans)
	return spans
}

// slowGrown is ConProof of leaves that are ok and have so many first ones.
func slowGrown(list []int, m int) []int {
	var proof []int
	for _, s := range slowSpans(m, len(list)) {
		proof = append(proof, slowRoot(list[s.from:s.to]))
	}
	return proof
}

// slowLed is both roots that a proof of the right length leads to, found by the bits of the last places, with nothing taken off.
func slowLed(m int, old int, n int, proof []int) (int, int) {
	if m&(m-1) == 0 || m == n {
		proof = slices.Concat([]int{old}, proof)
	}
	first, all := proof[0], proof[0]
	at, end := m-1, n-1
	for at&1 == 1 {
		at, end = at/2, end/2
	}
	for _, other := range proof[1:] {
		if at&1 == 1 || at == end {
			first, all = impl.MixPair(other, first), impl.MixPair(other, all)
			for at&1 == 0 && at != 0 {
				at, end = at/2, end/2
			}
		} else {
			all = impl.MixPair(all, other)
		}
		at, end = at/2, end/2
	}
	return first, all
}

// everyGrowth calls f with trees of each size and each beginning of them.
func everyGrowth(seed uint64, f func(r *row, list []int, m int)) {
	r := &row{seed}
	for n := 1; n <= impl.TreMax; n++ {
		list := r.leaves(n)
		for m := 1; m <= n; m++ {
			f(r, list, m)
		}
	}
}

func shows(t *testing.T, m int, old int, n int, root int, proof []int) {
	t.Helper()
	if !impl.ConCheck(m, old, n, root, proof) {
		t.Fatalf("ConCheck(%d, %d, %d, %d, %v) is false", m, old, n, root, proof)
	}
}

func showsNot(t *testing.T, m int, old int, n int, root int, proof []int) {
	t.Helper()
	if impl.ConCheck(m, old, n, root, proof) {
		t.Fatalf("ConCheck(%d, %d, %d, %d, %v) is true", m, old, n, root, proof)
	}
}

// The numbers were worked out from the document, apart from the program.
func TestConKnown(t *testing.T) {
	five, seven := []int{3, 5, 9, 0, 65520}, []int{1, 2, 3, 4, 5, 6, 7}
	many := make([]int, impl.TreMax)
	for i := range many {
		many[i] = i
	}
	for _, c := range []struct {
		list      []int
		m         int
		old, root int
		want      []int
	}{
		{five[:1], 1, 3, 3, nil},
		{five[:2], 1, 3, 25254, []int{5}},
		{five[:2], 2, 25254, 25254, nil},
		{five[:3], 1, 3, 37614, []int{5, 9}},
		{five[:3], 2, 25254, 37614, []int{9}},
		{five[:3], 3, 37614, 37614, nil},
		{five[:4], 1, 3, 50570, []int{5, 8229}},
		{five[:4], 2, 25254, 50570, []int{8229}},
		{five[:4], 3, 37614, 50570, []int{9, 0, 25254}},
		{five, 1, 3, 9963, []int{5, 8229, 65520}},
		{five, 2, 25254, 9963, []int{8229, 65520}},
		{five, 3, 37614, 9963, []int{9, 0, 25254, 65520}},
		{five, 4, 50570, 9963, []int{65520}},
		{five, 5, 9963, 9963, nil},
		{seven, 4, 29310, 16486, []int{18697}},
		{seven, 5, 25440, 16486, []int{5, 6, 7, 29310}},
		{seven, 6, 64634, 16486, []int{41778, 7, 29310}},
		{many, 1, 0, 34902, []int{1, 16800, 8237, 57788, 12563, 17442}},
		{many, 31, 31781, 34902, []int{30, 31, 37311, 30399, 20954, 38398, 17442}},
		{many, 32, 3197, 34902, []int{17442}},
		{many, 33, 19105, 34902, []int{32, 33, 22076, 44346, 3197}},
		{many, 36, 41919, 34902, []int{56532, 44346, 3197}},
		{many, 39, 42820, 34902, []int{38, 39, 38854, 56532, 3197}},
		{many, 40, 34902, 34902, nil},
	} {
		sameList(t, "proof", impl.ConProof(c.list, c.m), c.want)
		shows(t, c.m, c.old, len(c.list), c.root, c.want)
	}
}

// Promise 3.
func TestConProofShowsEachBeginning(t *testing.T) {
	for seed := range uint64(5) {
		everyGrowth(30+seed, func(r *row, list []int, m int) {
			proof := impl.ConProof(list, m)
			sameList(t, "proof", proof, slowGrown(list, m))
			shows(t, m, impl.TreRoot(list[:m]), len(list), impl.TreRoot(list), proof)
		})
	}
}

// A power of two, and all, are told by the first ones alone: what the proof has is not of any of them.
func TestConProofOfWhatIsToldAlone(t *testing.T) {
	everyGrowth(35, func(r *row, list []int, m int) {
		proof := impl.ConProof(list, m)
		turned := slices.Concat(r.leaves(m), list[m:])
		same := slices.Equal(impl.ConProof(turned, m), proof)
		if alone := m&(m-1) == 0 || m == len(list); alone && !same {
			t.Fatalf("the proof of the first %d of %v hangs on these", m, list)
		}
	})
	for n := 1; n <= impl.TreMax; n++ {
		sameList(t, "all of them", impl.ConProof((&row{36}).leaves(n), n), nil)
	}
}

// Promise 29.
func TestConOfBeginningsOfBeginnings(t *testing.T) {
	everyGrowth(37, func(r *row, list []int, m int) {
		root, inAll := impl.TreRoot(list[:m]), impl.TreRoot(list)
		shows(t, m, root, len(list), inAll, impl.ConProof(list, m))
		for l := 1; l <= m; l++ {
			old := impl.TreRoot(list[:l])
			shows(t, l, old, m, root, impl.ConProof(list[:m], l))
			shows(t, l, old, len(list), inAll, impl.ConProof(list, l))
		}
	})
}

// otherRoots is mixed numbers beside a root, near it and far off, and some that are none.
func otherRoots(r *row, root int) []int {
	roots := append(noMixed(), root+impl.MixMax, root-impl.MixMax)
	for _, by := range []int{1, 2, impl.MixMax - 1, 1 + r.below(impl.MixMax-1)} {
		roots = append(roots, (root+by)%impl.MixMax)
	}
	return roots
}

// Promise 28, of roots of all.
func TestConCheckOfOneRootAlone(t *testing.T) {
	everyGrowth(38, func(r *row, list []int, m int) {
		n, old, root, proof := len(list), impl.TreRoot(list[:m]), impl.TreRoot(list), impl.ConProof(list, m)
		for _, other := range otherRoots(r, root) {
			showsNot(t, m, old, n, other, proof)
		}
	})
	list := (&row{39}).leaves(7)
	for m := 1; m <= 7; m++ {
		old, root, proof := impl.TreRoot(list[:m]), impl.TreRoot(list), impl.ConProof(list, m)
		for other := range impl.MixMax {
			if got := impl.ConCheck(m, old, 7, other, proof); got != (other == root) {
				t.Fatalf("the first %d of %v, to %d, which is not %d: %v", m, list, other, root, got)
			}
		}
	}
}

// Promise 28, of as many leaves.
func TestConCheckOfAsMany(t *testing.T) {
	r := &row{40}
	for n := 1; n <= impl.TreMax; n++ {
		for _, root := range []int{0, 5, 1, impl.MixMax - 1, r.below(impl.MixMax)} {
			shows(t, n, root, n, root, nil)
			shows(t, n, root, n, root, []int{})
			for _, other := range otherRoots(r, root) {
				showsNot(t, n, root, n, other, nil)
				showsNot(t, n, other, n, root, nil)
			}
			for size := 1; size < 8; size++ {
				showsNot(t, n, root, n, root, slices.Repeat([]int{root}, size))
			}
		}
	}
}

// Whatever a proof of the right length has, it leads to two roots, and ConCheck is true of these alone.
func TestConCheckIsWhereTheProofLeads(t *testing.T) {
	everyGrowth(41, func(r *row, list []int, m int) {
		n := len(list)
		for range 4 {
			proof, old := r.leaves(len(slowSpans(m, n))), r.below(impl.MixMax)
			first, all := slowLed(m, old, n, proof)
			shows(t, m, first, n, all, proof)
			for _, other := range otherRoots(r, all) {
				showsNot(t, m, first, n, other, proof)
			}
			for _, other := range otherRoots(r, first) {
				f, a := slowLed(m, (other%impl.MixMax+impl.MixMax)%impl.MixMax, n, proof)
				if got, want := impl.ConCheck(m, other, n, all, proof), f == other && a == all; got != want {
					t.Fatalf("ConCheck(%d, %d, %d, %d, %v) is %v", m, other, n, all, proof, got)
				}
			}
		}
	})
}

func TestConCheckOfProofsOfAnotherLength(t *testing.T) {
	everyGrowth(42, func(r *row, list []int, m int) {
		n, old, root, proof := len(list), impl.TreRoot(list[:m]), impl.TreRoot(list), impl.ConProof(list, m)
		for size := range impl.TreMax + 5 {
			if size == len(proof) {
				continue
			}
			showsNot(t, m, old, n, root, append(slices.Clone(proof), r.leaves(impl.TreMax+5)...)[:size])
			showsNot(t, m, old, n, root, append(r.leaves(impl.TreMax+5), proof...)[impl.TreMax+5+len(proof)-size:])
		}
		if len(proof) > 0 {
			showsNot(t, m, old, n, root, proof[1:])
			showsNot(t, m, old, n, root, proof[:len(proof)-1])
		}
		showsNot(t, m, old, n, root, slices.Concat([]int{old}, proof))
		showsNot(t, m, old, n, root, slices.Concat(proof, []int{root}))
	})
}

// A longer or a shorter proof that would lead to both roots, if it were not counted, leads to none.
func TestConCheckCountsItsNumbers(t *testing.T) {
	list := []int{1, 2, 3, 4, 5, 6, 7}
	for m := 1; m <= 7; m++ {
		old, root, proof := impl.TreRoot(list[:m]), impl.TreRoot(list), impl.ConProof(list, m)
		for number := range impl.MixMax {
			if impl.ConCheck(m, old, 7, root, append([]int{number}, proof...)) {
				t.Fatalf("the first %d of 7, with %d ahead of the proof: true", m, number)
			}
		}
	}
}

func TestConCheckWrong(t *testing.T) {
	everyGrowth(43, func(r *row, list []int, m int) {
		n, old, root, proof := len(list), impl.TreRoot(list[:m]), impl.TreRoot(list), impl.ConProof(list, m)
		wrong := append(noMixed(), old+impl.MixMax, old-impl.MixMax, root+impl.MixMax, root-impl.MixMax)
		for _, other := range wrong {
			showsNot(t, m, other, n, root, proof)
			showsNot(t, m, old, n, other, proof)
			showsNot(t, m, other, n, other, proof)
		}
		for at := range proof {
			for _, other := range append(noMixed(), proof[at]+impl.MixMax, proof[at]-impl.MixMax) {
				showsNot(t, m, old, n, root, with(proof, at, other))
			}
		}
		for _, other := range []int{0, -1, -m, n + 1, math.MinInt, math.MaxInt} {
			showsNot(t, other, old, n, root, proof)
			showsNot(t, other, root, n, root, nil)
		}
		for _, other := range []int{0, -1, -n, m - 1, impl.TreMax + 1, 64, math.MinInt, math.MaxInt} {
			showsNot(t, m, old, other, root, proof)
			showsNot(t, m, old, other, old, nil)
		}
	})
}

// There is no tree of so many leaves, even if nothing has grown, or the proof has as many numbers as it would take.
func TestConCheckOfNoSuchSizes(t *testing.T) {
	for _, n := range []int{0, -1, impl.TreMax + 1, impl.TreMax + 2, 64, math.MinInt, math.MaxInt} {
		for _, m := range []int{0, 1, 2, 32, impl.TreMax, -1, n - 1, n, n + 1} {
			for size := range 8 {
				showsNot(t, m, 5, n, 5, make([]int, size))
				showsNot(t, m, 0, n, 0, make([]int, size))
			}
		}
	}
	r := &row{44}
	list := r.leaves(impl.TreMax + 1)
	for m := 1; m <= len(list); m++ {
		showsNot(t, m, slowRoot(list[:m]), len(list), slowRoot(list), slowGrown(list, m))
	}
}

func TestConProofWrong(t *testing.T) {
	r := &row{45}
	for n := range impl.TreMax + 1 {
		list := r.leaves(n)
		for _, m := range []int{0, -1, -n, n + 1, n + 2, 64, math.MinInt, math.MaxInt} {
			if m < 1 || m > n {
				sameList(t, "no such beginning", impl.ConProof(list, m), nil)
			}
		}
		for at := range list {
			for _, wrong := range noMixed() {
				for _, m := range []int{1, at, at + 1, n} {
					sameList(t, "no mixed number", impl.ConProof(with(list, at, wrong), m), nil)
				}
			}
		}
	}
	for _, m := range []int{0, 1, 2} {
		sameList(t, "no leaf", impl.ConProof(nil, m), nil)
		sameList(t, "no leaf", impl.ConProof([]int{}, m), nil)
	}
	for m := range impl.TreMax + 3 {
		sameList(t, "one leaf too many", impl.ConProof(r.leaves(impl.TreMax+1), m), nil)
	}
}

// Where both lists part, one old root does not begin both: a proof of another list shows only its own.
func TestConCheckOfAnotherBeginning(t *testing.T) {
	everyGrowth(46, func(r *row, list []int, m int) {
		n, proof := len(list), impl.ConProof(list, m)
		for at := range m {
			other := with(list, at, (list[at]+1)%impl.MixMax)
			old, root := impl.TreRoot(other[:m]), impl.TreRoot(list)
			if old != impl.TreRoot(list[:m]) && impl.TreRoot(other) != root {
				first, all := slowLed(m, old, n, proof)
				if got := impl.ConCheck(m, old, n, root, proof); got != (first == old && all == root) {
					t.Fatalf("another list's first %d, in %v: %v", m, list, got)
				}
			}
		}
	})
}
