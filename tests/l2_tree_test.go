package tests

import (
	"math"
	"slices"
	"testing"

	"loop.example/stileway/impl"
)

// noPlaces are places that a list of n has not.
func noPlaces(n int) []int {
	return []int{-1, -2, -n - 1, n, n + 1, math.MinInt, math.MaxInt}
}

// slowSplit is TreSplit of 2..TreMax as the document has it, found from above.
func slowSplit(n int) int {
	for _, k := range []int{64, 32, 16, 8, 4, 2} {
		if k < n {
			return k
		}
	}
	return 1
}

// slowRoot is TreRoot of leaves that are ok.
func slowRoot(list []int) int {
	if len(list) == 0 {
		return 5
	}
	if len(list) == 1 {
		return list[0]
	}
	k := slowSplit(len(list))
	return impl.MixPair(slowRoot(list[:k]), slowRoot(list[k:]))
}

// rung is a place on the way from a leaf up: the part in which the leaf stands, the other part, and whether the leaf's is on the left.
type rung struct {
	own, other []int
	onLeft     bool
}

// ladder is the rungs above a leaf, from below.
func ladder(list []int, i int) []rung {
	var rungs []rung
	for len(list) > 1 {
		k := slowSplit(len(list))
		if i < k {
			rungs = append(rungs, rung{list[:k], list[k:], true})
			list = list[:k]
		} else {
			rungs = append(rungs, rung{list[k:], list[:k], false})
			list, i = list[k:], i-k
		}
	}
	slices.Reverse(rungs)
	return rungs
}

// pair is two numbers in the order of the rung's parts.
func (r rung) pair(own int, other int) []int {
	if r.onLeft {
		return []int{own, other}
	}
	return []int{other, own}
}

// climb is what a number beside another one on a rung leads to.
func (r rung) climb(own int, other int) int {
	p := r.pair(own, other)
	return impl.MixPair(p[0], p[1])
}

// besideFor is what must stand beside a number on a rung, so that both mix to a root.
func (r rung) besideFor(own int, root int) (int, bool) {
	if r.onLeft {
		return rightOf(own, root)
	}
	return leftOf(own, root)
}

// slowProof is TreProof of a leaf that is there.
func slowProof(list []int, i int) []int {
	var proof []int
	for _, r := range ladder(list, i) {
		proof = append(proof, slowRoot(r.other))
	}
	return proof
}

// everyLeaf calls f with each leaf of trees of each size.
func everyLeaf(seed uint64, f func(r *row, list []int, i int)) {
	r := &row{seed}
	for n := 1; n <= impl.TreMax; n++ {
		list := r.leaves(n)
		for i := range list {
			f(r, list, i)
		}
	}
}

// Promise 22.
func TestTreOk(t *testing.T) {
	r := &row{2}
	for n := range impl.TreMax + 10 {
		list := r.leaves(n)
		if got, want := impl.TreOk(list), n <= impl.TreMax; got != want {
			t.Fatalf("of %d leaves: %v", n, got)
		}
		for i := range list {
			for _, wrong := range noMixed() {
				if impl.TreOk(with(list, i, wrong)) {
					t.Fatalf("of %d leaves, %d at %d: true", n, wrong, i)
				}
			}
		}
	}
	if !impl.TreOk(nil) || !impl.TreOk([]int{}) || !impl.TreOk([]int{0, impl.MixMax - 1}) {
		t.Fatal("no leaf, and the least and the greatest one, are ok")
	}
}

// Promise 23.
func TestTreSplit(t *testing.T) {
	for n, want := range map[int]int{2: 1, 3: 2, 4: 2, 5: 4, 8: 4, 9: 8, 16: 8, 17: 16, 32: 16, 33: 32, 39: 32, impl.TreMax: 32} {
		if got := impl.TreSplit(n); got != want {
			t.Errorf("TreSplit(%d): got %d, want %d", n, got, want)
		}
	}
	for n := 2; n <= impl.TreMax; n++ {
		k := impl.TreSplit(n)
		if k < 1 || k&(k-1) != 0 || k >= n || 2*k < n {
			t.Errorf("TreSplit(%d) is %d", n, k)
		}
	}
	for _, n := range []int{1, 0, -1, -2, -8, impl.TreMax + 1, impl.TreMax + 2, 64, 1000, math.MinInt, math.MaxInt} {
		if got := impl.TreSplit(n); got != 0 {
			t.Errorf("TreSplit(%d): got %d, want 0", n, got)
		}
	}
}

// The numbers were worked out from the document, apart from the program.
func TestTreRootKnown(t *testing.T) {
	upTo := func(n int) []int {
		list := make([]int, n)
		for i := range list {
			list[i] = i
		}
		return list
	}
	for _, c := range []struct {
		list []int
		want int
	}{
		{nil, 5},
		{[]int{}, 5},
		{[]int{0}, 0},
		{[]int{impl.MixMax - 1}, impl.MixMax - 1},
		{[]int{3, 5}, 25254},
		{[]int{3, 5, 9}, 37614},
		{[]int{3, 5, 9, 0}, 50570},
		{[]int{3, 5, 9, 0, 65520}, 9963},
		{upTo(39), 42820},
		{upTo(impl.TreMax), 34902},
	} {
		if got := impl.TreRoot(c.list); got != c.want {
			t.Errorf("TreRoot(%v): got %d, want %d", c.list, got, c.want)
		}
	}
}

// Promise 24.
func TestTreRootIsOfBothParts(t *testing.T) {
	r := &row{3}
	for n := 2; n <= impl.TreMax; n++ {
		list := r.leaves(n)
		k := impl.TreSplit(n)
		if got, want := impl.TreRoot(list), impl.MixPair(impl.TreRoot(list[:k]), impl.TreRoot(list[k:])); got != want || got != slowRoot(list) {
			t.Errorf("of %d leaves: got %d, want %d", n, got, want)
		}
	}
}

func TestTreRootWrong(t *testing.T) {
	r := &row{4}
	for _, n := range []int{impl.TreMax + 1, impl.TreMax + 2, 64, 100} {
		if got := impl.TreRoot(r.leaves(n)); got != 0 {
			t.Errorf("of %d leaves: got %d, want 0", n, got)
		}
	}
	for _, n := range []int{1, 2, 3, impl.TreMax} {
		for _, wrong := range noMixed() {
			for i := range n {
				if got := impl.TreRoot(with(r.leaves(n), i, wrong)); got != 0 {
					t.Errorf("of %d leaves with %d: got %d, want 0", n, wrong, got)
				}
			}
		}
	}
}

func TestTreProofKnown(t *testing.T) {
	five := []int{3, 5, 9, 0, 65520}
	sameList(t, "the only one", impl.TreProof([]int{3}, 0), nil)
	sameList(t, "the left one of two", impl.TreProof([]int{3, 5}, 0), []int{5})
	sameList(t, "the right one of two", impl.TreProof([]int{3, 5}, 1), []int{3})
	sameList(t, "the first one of three", impl.TreProof([]int{3, 5, 9}, 0), []int{5, 9})
	sameList(t, "the last one of three", impl.TreProof([]int{3, 5, 9}, 2), []int{25254})
	sameList(t, "the third one of five", impl.TreProof(five, 2), []int{0, 25254, 65520})
	sameList(t, "the last one of five", impl.TreProof(five, 4), []int{50570})
}

// halvings is how often a tree of n leaves can be parted, one part in the other.
func halvings(n int) int {
	count := 0
	for size := 1; size < n; size *= 2 {
		count++
	}
	return count
}

// Promise 1.
func TestTreProofShowsItsLeaf(t *testing.T) {
	everyLeaf(5, func(r *row, list []int, i int) {
		proof := impl.TreProof(list, i)
		sameList(t, "proof", proof, slowProof(list, i))
		if len(proof) > halvings(len(list)) {
			t.Fatalf("the proof of %d of %d has %d numbers", i, len(list), len(proof))
		}
		if !impl.TreCheck(impl.TreRoot(list), len(list), i, list[i], proof) {
			t.Fatalf("the proof of %d of %v does not show it", i, list)
		}
	})
}

func TestTreProofWrong(t *testing.T) {
	r := &row{6}
	for n := range impl.TreMax + 1 {
		list := r.leaves(n)
		for _, i := range noPlaces(n) {
			sameList(t, "no such place", impl.TreProof(list, i), nil)
		}
		for _, wrong := range noMixed() {
			for i := range list {
				sameList(t, "no mixed number", impl.TreProof(with(list, n-1-i, wrong), i), nil)
			}
		}
	}
	for _, i := range []int{0, 1, 20, impl.TreMax - 1, impl.TreMax} {
		sameList(t, "one leaf too many", impl.TreProof(r.leaves(impl.TreMax+1), i), nil)
	}
}

// Promise 27.
func TestTreProofStaysWhenItsLeafTurns(t *testing.T) {
	everyLeaf(7, func(r *row, list []int, i int) {
		proof := impl.TreProof(list, i)
		for _, leaf := range []int{0, impl.MixMax - 1, r.below(impl.MixMax)} {
			turned := with(list, i, leaf)
			sameList(t, "proof of the turned leaf", impl.TreProof(turned, i), proof)
			if !impl.TreCheck(impl.TreRoot(turned), len(list), i, leaf, proof) {
				t.Fatalf("the proof of %d of %v does not show %d there", i, list, leaf)
			}
		}
	})
}

// sameUp asks for a root and true.
func sameUp(t *testing.T, n int, i int, leaf int, proof []int, want int) {
	t.Helper()
	if got, ok := impl.TreUp(n, i, leaf, proof); !ok || got != want {
		t.Fatalf("TreUp(%d, %d, %d, %v): got %d, %v, want %d, true", n, i, leaf, proof, got, ok, want)
	}
	if !impl.TreCheck(want, n, i, leaf, proof) {
		t.Fatalf("TreCheck(%d, %d, %d, %d, %v) is false", want, n, i, leaf, proof)
	}
}

// noUp asks for 0 and false, and that no root is shown.
func noUp(t *testing.T, n int, i int, leaf int, proof []int) {
	t.Helper()
	if got, ok := impl.TreUp(n, i, leaf, proof); ok || got != 0 {
		t.Fatalf("TreUp(%d, %d, %d, %v): got %d, %v, want 0, false", n, i, leaf, proof, got, ok)
	}
	for _, root := range []int{0, 5, leaf, impl.MixMax - 1} {
		if impl.TreCheck(root, n, i, leaf, proof) {
			t.Fatalf("TreCheck(%d, %d, %d, %d, %v) is true", root, n, i, leaf, proof)
		}
	}
}

func TestTreUpKnown(t *testing.T) {
	sameUp(t, 1, 0, 0, nil, 0)
	sameUp(t, 1, 0, impl.MixMax-1, []int{}, impl.MixMax-1)
	sameUp(t, 2, 0, 3, []int{5}, 25254)
	sameUp(t, 2, 1, 3, []int{5}, 41382)
	sameUp(t, 3, 0, 3, []int{5, 9}, 37614)
	sameUp(t, 3, 1, 5, []int{3, 9}, 37614)
	sameUp(t, 3, 2, 9, []int{25254}, 37614)
}

// Promise 26.
func TestTreUpIsThatOfItsPart(t *testing.T) {
	everyLeaf(8, func(r *row, list []int, i int) {
		n := len(list)
		proof := r.leaves(len(slowProof(list, i)))
		leaf := r.leaves(1)[0]
		if n == 1 {
			sameUp(t, 1, 0, leaf, proof, leaf)
			return
		}
		k, last := impl.TreSplit(n), len(proof)-1
		if i < k {
			part, _ := impl.TreUp(k, i, leaf, proof[:last])
			sameUp(t, n, i, leaf, proof, impl.MixPair(part, proof[last]))
		} else {
			part, _ := impl.TreUp(n-k, i-k, leaf, proof[:last])
			sameUp(t, n, i, leaf, proof, impl.MixPair(proof[last], part))
		}
	})
}

func TestTreUpClimbsAnyProof(t *testing.T) {
	everyLeaf(9, func(r *row, list []int, i int) {
		rungs := ladder(list, i)
		proof := r.leaves(len(rungs))
		leaf := r.leaves(1)[0]
		up := leaf
		for at, rung := range rungs {
			up = rung.climb(up, proof[at])
		}
		sameUp(t, len(list), i, leaf, proof, up)
	})
}

func TestTreUpOfProofsOfAnotherLength(t *testing.T) {
	everyLeaf(10, func(r *row, list []int, i int) {
		n, proof := len(list), slowProof(list, i)
		for size := range impl.TreMax + 5 {
			if size != len(proof) {
				noUp(t, n, i, list[i], append(slices.Clone(proof), r.leaves(impl.TreMax+5)...)[:size])
			}
		}
	})
}

func TestTreUpWrong(t *testing.T) {
	everyLeaf(11, func(r *row, list []int, i int) {
		n, proof := len(list), slowProof(list, i)
		for _, wrong := range noMixed() {
			noUp(t, n, i, wrong, proof)
			for at := range proof {
				noUp(t, n, i, list[i], with(proof, at, wrong))
			}
		}
		for _, place := range noPlaces(n) {
			noUp(t, n, place, list[i], proof)
		}
	})
	for _, n := range []int{0, -1, impl.TreMax + 1, 64, math.MinInt, math.MaxInt} {
		for size := range 8 {
			for _, i := range []int{0, 1, impl.TreMax, -1, n - 1, n} {
				noUp(t, n, i, 3, make([]int, size))
			}
		}
	}
}

// Promise 25.
func TestTreCheckIsTreUp(t *testing.T) {
	everyLeaf(12, func(r *row, list []int, i int) {
		n, proof := len(list), r.leaves(len(slowProof(list, i)))
		up, _ := impl.TreUp(n, i, list[i], proof)
		roots := append(noMixed(), 0, 5, up, up+1, up-1, up+impl.MixMax, up-impl.MixMax, r.below(impl.MixMax))
		for _, root := range roots {
			if got := impl.TreCheck(root, n, i, list[i], proof); got != (root == up) {
				t.Fatalf("TreCheck(%d, %d, %d, %d, %v) is %v, TreUp is %d", root, n, i, list[i], proof, got, up)
			}
		}
	})
}

// forged is a proof of a leaf that is not there, right above a rung and chance below it, and what TreClash must find; false, if no number beside would do.
func forged(r *row, list []int, i int, leaf int, at int) (proof []int, clash []int, ok bool) {
	rungs, up := ladder(list, i), leaf
	proof = slowProof(list, i)
	for below := range at {
		proof[below] = r.below(impl.MixMax)
		up = rungs[below].climb(up, proof[below])
	}
	there := rungs[at].pair(slowRoot(rungs[at].own), slowRoot(rungs[at].other))
	beside, ok := rungs[at].besideFor(up, impl.MixPair(there[0], there[1]))
	if !ok {
		return nil, nil, false
	}
	proof[at] = beside
	shown := rungs[at].pair(up, beside)
	return proof, append(shown, there...), !slices.Equal(shown, there)
}

// isClash asks for two pairs of mixed numbers that differ, and have one MixPair.
func isClash(t *testing.T, clash []int) {
	t.Helper()
	if len(clash) != 4 || !impl.TreOk(clash) {
		t.Fatalf("%v is not two pairs of mixed numbers", clash)
	}
	if slices.Equal(clash[:2], clash[2:]) || impl.MixPair(clash[0], clash[1]) != impl.MixPair(clash[2], clash[3]) {
		t.Fatalf("%v does not clash", clash)
	}
}

// Promise 2.
func TestTreClashOfForgedProofs(t *testing.T) {
	found := 0
	everyLeaf(13, func(r *row, list []int, i int) {
		root := impl.TreRoot(list)
		for at := range ladder(list, i) {
			leaf := (list[i] + 1 + r.below(impl.MixMax-1)) % impl.MixMax
			proof, want, ok := forged(r, list, i, leaf, at)
			if !ok {
				continue
			}
			found++
			if !impl.TreCheck(root, len(list), i, leaf, proof) {
				t.Fatalf("%v does not show %d as the %d of %v", proof, leaf, i, list)
			}
			clash := impl.TreClash(list, i, leaf, proof)
			sameList(t, "clash", clash, want)
			isClash(t, clash)
		}
	})
	if found < 3000 {
		t.Fatalf("only %d proofs were forged", found)
	}
}

// A proof that is right leads another leaf to the root, too, where a number mixes alike with anything.
func TestTreClashBesideADeafNumber(t *testing.T) {
	for _, c := range []struct {
		list  []int
		i     int
		clash []int
	}{
		{[]int{deafLeft, 4}, 1, []int{deafLeft, 9, deafLeft, 4}},
		{[]int{4, deafRight}, 0, []int{9, deafRight, 4, deafRight}},
		{[]int{4, deafRight, 6}, 0, []int{9, deafRight, 4, deafRight}},
		{[]int{1, 2, 4, deafRight, 8}, 2, []int{9, deafRight, 4, deafRight}},
		{[]int{1, 2, deafLeft, 4}, 3, []int{deafLeft, 9, deafLeft, 4}},
		{[]int{4, 6, deafRight}, 0, []int{impl.MixPair(9, 6), deafRight, impl.MixPair(4, 6), deafRight}},
	} {
		clash := impl.TreClash(c.list, c.i, 9, impl.TreProof(c.list, c.i))
		sameList(t, "clash", clash, c.clash)
		isClash(t, clash)
	}
}

func TestTreClashOfNothingWrong(t *testing.T) {
	everyLeaf(14, func(r *row, list []int, i int) {
		n, proof := len(list), impl.TreProof(list, i)
		sameList(t, "the leaf that is there", impl.TreClash(list, i, list[i], proof), nil)
		other := r.below(impl.MixMax)
		if !impl.TreCheck(impl.TreRoot(list), n, i, other, proof) {
			sameList(t, "what shows nothing", impl.TreClash(list, i, other, proof), nil)
		}
		sameList(t, "a proof too long", impl.TreClash(list, i, other, append(slices.Clone(proof), 1)), nil)
		if n > 1 {
			sameList(t, "a proof too short", impl.TreClash(list, i, other, proof[:len(proof)-1]), nil)
		}
	})
}

// The leaf that is there clashes with nothing, by another proof of it neither.
func TestTreClashOfTheSameLeaf(t *testing.T) {
	list := []int{deafLeft, 4, deafRight}
	proof := []int{77, deafRight}
	if !impl.TreCheck(impl.TreRoot(list), 3, 0, deafLeft, proof) {
		t.Fatal("the proof shows the leaf")
	}
	sameList(t, "the same leaf", impl.TreClash(list, 0, deafLeft, proof), nil)
}

// The proof would lead to a clash, if leaf, leaves and place were ones.
func TestTreClashWrong(t *testing.T) {
	list, proof := []int{4, deafRight}, []int{deafRight}
	isClash(t, impl.TreClash(list, 0, 9, proof))
	for _, i := range append(noPlaces(2), 1) {
		sameList(t, "no such place", impl.TreClash(list, i, 9, proof), nil)
	}
	for _, wrong := range noMixed() {
		sameList(t, "no such leaf", impl.TreClash(list, 0, wrong, proof), nil)
		sameList(t, "no such number beside", impl.TreClash(list, 0, 9, []int{wrong}), nil)
		sameList(t, "no such leaves", impl.TreClash([]int{wrong, deafRight}, 0, 9, proof), nil)
		sameList(t, "no such leaves", impl.TreClash([]int{4, wrong}, 0, 9, proof), nil)
	}
	for _, i := range noPlaces(0) {
		sameList(t, "no leaf", impl.TreClash(nil, i, 9, nil), nil)
		sameList(t, "no leaf", impl.TreClash(nil, i, 5, nil), nil)
	}
	sameList(t, "one leaf", impl.TreClash([]int{4}, 0, 9, nil), nil)
	many := make([]int, impl.TreMax+1)
	for size := range 8 {
		sameList(t, "one leaf too many", impl.TreClash(many, 0, 9, many[:size]), nil)
	}
}
