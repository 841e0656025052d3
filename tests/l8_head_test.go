package tests

import (
	"math"
	"slices"
	"testing"

	"loop.example/stileway/impl"
)

// slowHedOk is HedOk, by the numbers of the document.
func slowHedOk(h impl.HedHead) bool {
	return h.Size >= 0 && h.Size <= 40 && h.Log >= 0 && h.Log <= 65520 && h.Own >= 0 && h.Own <= 65520
}

// slowHead is HedOf, by the stories of the tickets.
func slowHead(list []impl.EntEntry) (impl.HedHead, bool) {
	rows, ok := slowFold(list)
	if !ok {
		return impl.HedHead{}, false
	}
	return impl.HedHead{Size: len(list), Log: slowRoot(slowLeaves(list)), Own: slowRoot(leavesOf(rows))}, true
}

func slowLeaves(list []impl.EntEntry) []int {
	var leaves []int
	for _, e := range list {
		leaves = append(leaves, slowLeaf([]int{e.Kind, e.Ticket, e.Who, e.Price}))
	}
	return leaves
}

// slowLeads says whether a proof leads from a root of m leaves to one of n, with both sizes in 1..TreMax.
func slowLeads(m int, old int, n int, root int, proof []int) bool {
	if len(proof) != len(slowSpans(m, n)) || slices.ContainsFunc(proof, func(p int) bool { return p < 0 || p > 65520 }) {
		return false
	}
	first, all := slowLed(m, old, n, proof)
	return first == old && all == root
}

// slowFollows is HedFollows, a case behind the other.
func slowFollows(old impl.HedHead, h impl.HedHead, proof []int) bool {
	same := old.Size == h.Size && old.Log == h.Log && old.Own == h.Own
	switch {
	case !slowHedOk(old) || !slowHedOk(h):
		return false
	case old.Size == 0 && h.Size == 0:
		return same && len(proof) == 0
	case old.Size == 0:
		return len(proof) == 0
	case old.Size == h.Size:
		return same && len(proof) == 0
	case old.Size > h.Size:
		return false
	}
	return slowLeads(old.Size, old.Log, h.Size, h.Log, proof)
}

func follows(t *testing.T, what string, old impl.HedHead, h impl.HedHead, proof []int, want bool) {
	t.Helper()
	if got := impl.HedFollows(old, h, proof); got != want {
		t.Fatalf("%s: HedFollows(%v, %v, %v) is %v", what, old, h, proof, got)
	}
}

func forks(t *testing.T, what string, a impl.HedHead, b impl.HedHead, want bool) {
	t.Helper()
	if one, other := impl.HedFork(a, b), impl.HedFork(b, a); one != want || other != want {
		t.Fatalf("%s: HedFork of %v and %v is %v, the other way round %v", what, a, b, one, other)
	}
}

// headAt is HedAt of so many entries that follow one another.
func headAt(t *testing.T, list []impl.EntEntry, size int) impl.HedHead {
	t.Helper()
	h, ok := impl.HedAt(list, size)
	if want, there := slowHead(list[:size]); !ok || !there || h != want {
		t.Fatalf("HedAt of %d of %v is %v and %v, not %v", size, list, h, ok, want)
	}
	return h
}

// noHead asks that there is none.
func noHead(t *testing.T, what string, h impl.HedHead, ok bool) {
	t.Helper()
	if ok || h != (impl.HedHead{}) {
		t.Fatalf("%s: %v and %v", what, h, ok)
	}
}

// wrongHeads is a head, turned so in each of its parts that it is not ok.
func wrongHeads(h impl.HedHead) []impl.HedHead {
	var wrong []impl.HedHead
	for _, n := range append(far(), -1, impl.TreMax+1) {
		wrong = append(wrong, impl.HedHead{Size: n, Log: h.Log, Own: h.Own})
	}
	for _, n := range append(noMixed(), h.Log+impl.MixMax, h.Log-impl.MixMax) {
		wrong = append(wrong, impl.HedHead{Size: h.Size, Log: n, Own: h.Own})
	}
	for _, n := range append(noMixed(), h.Own+impl.MixMax, h.Own-impl.MixMax) {
		wrong = append(wrong, impl.HedHead{Size: h.Size, Log: h.Log, Own: n})
	}
	return wrong
}

// otherHeads is heads that are ok, of the size of one, that differ in one root, in the other one, and in both.
func otherHeads(h impl.HedHead) []impl.HedHead {
	var others []impl.HedHead
	for _, by := range []int{1, 2, impl.MixMax / 2, impl.MixMax - 1} {
		log, own := (h.Log+by)%impl.MixMax, (h.Own+by)%impl.MixMax
		others = append(others, impl.HedHead{Size: h.Size, Log: log, Own: h.Own}, impl.HedHead{Size: h.Size, Log: h.Log, Own: own}, impl.HedHead{Size: h.Size, Log: log, Own: own})
	}
	if h.Log != h.Own {
		others = append(others, impl.HedHead{Size: h.Size, Log: h.Own, Own: h.Log})
	}
	return others
}

// edgeHeads is heads with each part at its edges, one beyond them, and between.
func edgeHeads() []impl.HedHead {
	var heads []impl.HedHead
	for _, size := range []int{-1, 0, 1, 2, 3, impl.TreMax - 1, impl.TreMax, impl.TreMax + 1} {
		for _, log := range []int{-1, 0, 5, impl.MixMax - 1, impl.MixMax} {
			for _, own := range []int{-1, 0, 7, impl.MixMax - 1, impl.MixMax} {
				heads = append(heads, impl.HedHead{Size: size, Log: log, Own: own})
			}
		}
	}
	return heads
}

// sevenEntries follow one another; what is known of them was worked out from the document, apart from the program.
func sevenEntries() []impl.EntEntry {
	return []impl.EntEntry{
		{Kind: impl.EntIssue, Ticket: 0, Who: 2, Price: 40}, {Kind: impl.EntPass, Ticket: 0, Who: 3, Price: 48},
		{Kind: impl.EntIssue, Ticket: 1, Who: 4, Price: 30}, {Kind: impl.EntEnter, Ticket: 0, Who: 3},
		{Kind: impl.EntPass, Ticket: 1, Who: 5, Price: 36}, {Kind: impl.EntIssue, Ticket: 7, Who: 1, Price: 1},
		{Kind: impl.EntEnter, Ticket: 7, Who: 1},
	}
}

func sevenHeads() []impl.HedHead {
	return []impl.HedHead{
		{Size: 0, Log: 5, Own: 39534}, {Size: 1, Log: 15719, Own: 20148}, {Size: 2, Log: 10122, Own: 31213},
		{Size: 3, Log: 60567, Own: 60261}, {Size: 4, Log: 58584, Own: 63669}, {Size: 5, Log: 52869, Own: 26886},
		{Size: 6, Log: 31031, Own: 35843}, {Size: 7, Log: 12520, Own: 63094},
	}
}

func TestHedKnown(t *testing.T) {
	list, heads := sevenEntries(), sevenHeads()
	for size, want := range heads {
		if h := headAt(t, list, size); h != want {
			t.Fatalf("HedAt of %d is %v", size, h)
		}
		if h, ok := impl.HedOf(list[:size]); !ok || h != want {
			t.Fatalf("HedOf of %d is %v and %v", size, h, ok)
		}
	}
	for size, proof := range [][]int{nil, {37673, 61599, 36836}, {61599, 36836}, {36865, 61864, 10122, 36836}, {36836}, {58757, 27734, 13540, 58584}, {4804, 13540, 58584}, nil} {
		sameList(t, "proof", impl.HedProof(list, size), proof)
		follows(t, "known", heads[size], heads[7], proof, true)
	}
	sameList(t, "proof in six", impl.HedProof(list[:6], 5), []int{58757, 27734, 58584})
	follows(t, "six behind five", heads[5], heads[6], []int{58757, 27734, 58584}, true)
}

func TestHedKnownOfTreMax(t *testing.T) {
	list := backAndForth(impl.TreMax)
	all := impl.HedHead{Size: 40, Log: 2093, Own: 62350}
	for _, c := range []struct {
		head  impl.HedHead
		proof []int
	}{
		{impl.HedHead{Size: 1, Log: 14789, Own: 51285}, []int{36557, 5939, 19222, 29752, 62665, 29752}},
		{impl.HedHead{Size: 2, Log: 6851, Own: 62350}, []int{5939, 19222, 29752, 62665, 29752}},
		{impl.HedHead{Size: 31, Log: 46182, Own: 51285}, []int{40530, 36557, 5939, 19222, 29752, 22299, 29752}},
		{impl.HedHead{Size: 32, Log: 9474, Own: 62350}, []int{29752}},
		{impl.HedHead{Size: 33, Log: 24012, Own: 51285}, []int{40530, 36557, 5939, 19222, 9474}},
		{impl.HedHead{Size: 39, Log: 17432, Own: 51285}, []int{40530, 36557, 5939, 19222, 9474}},
		{all, nil},
	} {
		if h := headAt(t, list, c.head.Size); h != c.head {
			t.Fatalf("HedAt of %d is %v", c.head.Size, h)
		}
		sameList(t, "proof", impl.HedProof(list, c.head.Size), c.proof)
		follows(t, "known", c.head, all, c.proof, true)
	}
}

func TestHedOk(t *testing.T) {
	for _, h := range []impl.HedHead{{}, {Size: impl.TreMax}, {Log: impl.MixMax - 1}, {Own: impl.MixMax - 1}, {Size: impl.TreMax, Log: impl.MixMax - 1, Own: impl.MixMax - 1}, {Size: 1, Log: 2, Own: 3}} {
		if !impl.HedOk(h) {
			t.Fatalf("%v is ok", h)
		}
		for _, wrong := range wrongHeads(h) {
			if impl.HedOk(wrong) {
				t.Fatalf("%v is not ok", wrong)
			}
		}
		for _, other := range otherHeads(h) {
			if !impl.HedOk(other) {
				t.Fatalf("%v is ok", other)
			}
		}
	}
	for _, h := range edgeHeads() {
		if got := impl.HedOk(h); got != slowHedOk(h) {
			t.Fatalf("HedOk of %v is %v", h, got)
		}
	}
	for size := -3; size <= impl.TreMax+3; size++ {
		if got := impl.HedOk(impl.HedHead{Size: size}); got != (size >= 0 && size <= 40) {
			t.Fatalf("HedOk of size %d is %v", size, got)
		}
	}
}

// Promise 57, of all entries.
func TestHedOfIsTrueJustIfOwnFoldIs(t *testing.T) {
	told := map[bool]int{}
	everyLog(80, func(list []impl.EntEntry) {
		h, ok := impl.HedOf(list)
		want, there := slowHead(list)
		if h != want || ok != there {
			t.Fatalf("HedOf of %v is %v and %v, not %v and %v", list, h, ok, want, there)
		}
		if _, folds := impl.OwnFold(list); ok != folds {
			t.Fatalf("HedOf of %v is %v, OwnFold is %v", list, ok, folds)
		}
		if ok && !impl.HedOk(h) {
			t.Fatalf("HedOf of %v is %v, which is not ok", list, h)
		}
		told[ok]++
	})
	if told[true] < 100 || told[false] < 100 {
		t.Fatalf("there were %v", told)
	}
}

func TestHedOfEdges(t *testing.T) {
	for _, none := range [][]impl.EntEntry{nil, {}} {
		if h, ok := impl.HedOf(none); !ok || h != sevenHeads()[0] {
			t.Fatalf("of no entries: %v and %v", h, ok)
		}
	}
	for _, n := range []int{1, impl.TreMax - 1, impl.TreMax} {
		if h, ok := impl.HedOf(backAndForth(n)); !ok || h.Size != n {
			t.Fatalf("of %d entries: %v and %v", n, h, ok)
		}
	}
	for _, n := range []int{impl.TreMax + 1, impl.TreMax + 2, 200} {
		h, ok := impl.HedOf(backAndForth(n))
		noHead(t, "too many entries", h, ok)
	}
	list := sevenEntries()
	for i := range list {
		for _, wrong := range []impl.EntEntry{{}, {Kind: impl.EntPass, Ticket: 5, Who: 2, Price: 1}, {Kind: impl.EntEnter, Ticket: 5, Who: 2}, {Kind: impl.EntIssue, Ticket: 8, Who: 2, Price: 1}} {
			h, ok := impl.HedOf(with(list, i, wrong))
			noHead(t, "an entry that may not follow", h, ok)
		}
	}
	h, ok := impl.HedOf(list[1:])
	noHead(t, "no beginning", h, ok)
}

// Promise 57, of the first so many.
func TestHedAtIsHedOfTheFirst(t *testing.T) {
	everyLog(81, func(list []impl.EntEntry) {
		for size := range len(list) + 1 {
			h, ok := impl.HedAt(list, size)
			want, there := impl.HedOf(list[:size])
			if h != want || ok != there {
				t.Fatalf("HedAt of %d of %v is %v and %v, not %v and %v", size, list, h, ok, want, there)
			}
		}
		for _, size := range append(far(), -1, -2, -len(list)-1, len(list)+1, len(list)+2, impl.TreMax+1) {
			if size < 0 || size > len(list) {
				h, ok := impl.HedAt(list, size)
				noHead(t, "no so many", h, ok)
			}
		}
	})
}

// What stands behind the first ones does not count: entries that may not follow, or too many, or those in a list's spare room.
func TestHedAtEdges(t *testing.T) {
	long := backAndForth(impl.TreMax + 5)
	for size := range impl.TreMax + 1 {
		if h := headAt(t, long, size); h.Size != size {
			t.Fatalf("HedAt of %d is %v", size, h)
		}
	}
	for size := impl.TreMax + 1; size <= len(long); size++ {
		h, ok := impl.HedAt(long, size)
		noHead(t, "more than TreMax", h, ok)
	}
	list := sevenEntries()
	for size := range list {
		broken := with(list, size, impl.EntEntry{Kind: 9})
		if h := headAt(t, broken, size); h != sevenHeads()[size] {
			t.Fatalf("HedAt of %d ahead of the break is %v", size, h)
		}
		for beyond := size + 1; beyond <= len(list); beyond++ {
			h, ok := impl.HedAt(broken, beyond)
			noHead(t, "the break is among them", h, ok)
			h, ok = impl.HedAt(list[:size], beyond)
			noHead(t, "only spare room is left", h, ok)
		}
	}
	for _, size := range []int{-1, 1, 2} {
		h, ok := impl.HedAt(nil, size)
		noHead(t, "no entries", h, ok)
	}
}

// HedProof does not ask whether entries follow one another, only how many they are.
func TestHedProofIsConProofOfLeaves(t *testing.T) {
	r := &row{82}
	for n := range impl.TreMax + 3 {
		for _, list := range [][]impl.EntEntry{r.log(n), r.entries(n)} {
			for size := -2; size <= n+2; size++ {
				var want []int
				if n <= 40 && size >= 1 && size <= n {
					want = slowGrown(slowLeaves(list), size)
				}
				sameList(t, "proof", impl.HedProof(list, size), want)
			}
			for _, size := range far() {
				sameList(t, "no such size", impl.HedProof(list, size), nil)
			}
		}
	}
	list := sevenEntries()
	for size := range list {
		sameList(t, "only spare room is left", impl.HedProof(list[:size], size+1), nil)
	}
}

// Promise 10, of what follows.
func TestHedFollowsWithHedProof(t *testing.T) {
	r := &row{83}
	for n := 1; n <= impl.TreMax; n++ {
		list := r.log(n)
		all := headAt(t, list, n)
		for m := 1; m <= n; m++ {
			follows(t, "the first ones", headAt(t, list, m), all, impl.HedProof(list, m), true)
		}
		follows(t, "none", headAt(t, list, 0), all, impl.HedProof(list, 0), true)
	}
}

// Each beginning follows each beginning of it, so that heads may be left out on their way.
func TestHedFollowsOfBeginnings(t *testing.T) {
	list := (&row{84}).log(impl.TreMax)
	for n := range impl.TreMax + 1 {
		for m := range n + 1 {
			follows(t, "a beginning", headAt(t, list, m), headAt(t, list, n), impl.HedProof(list[:n], m), true)
		}
	}
}

// Promise 10, of fewer entries: no proof shows that.
func TestHedFollowsNeverOfFewer(t *testing.T) {
	r := &row{85}
	for n := 1; n <= impl.TreMax; n++ {
		list := r.log(n)
		all := headAt(t, list, n)
		for m := range n {
			first := headAt(t, list, m)
			proofs := [][]int{nil, {}, impl.HedProof(list, m), impl.HedProof(list[:m], m), {first.Log}, {all.Log}}
			for size := range 8 {
				proofs = append(proofs, r.leaves(size))
			}
			for _, proof := range proofs {
				follows(t, "fewer", all, first, proof, false)
				follows(t, "fewer, with the same roots", all, impl.HedHead{Size: m, Log: all.Log, Own: all.Own}, proof, false)
			}
		}
	}
}

// The first head is of no entries: whatever its roots are, all others follow, and of no entries only itself; but with no number.
func TestHedFollowsFromNone(t *testing.T) {
	r := &row{86}
	for _, none := range []impl.HedHead{sevenHeads()[0], {}, {Log: impl.MixMax - 1, Own: impl.MixMax - 1}, {Log: 0, Own: 7}} {
		some := append(otherHeads(impl.HedHead{Size: 1, Log: none.Log, Own: none.Own}), impl.HedHead{Size: 1, Log: none.Log, Own: none.Own}, impl.HedHead{Size: impl.TreMax}, impl.HedHead{Size: impl.TreMax, Log: impl.MixMax - 1, Own: 9})
		for _, proof := range [][]int{nil, {}} {
			follows(t, "none behind none", none, none, proof, true)
			for _, other := range otherHeads(none) {
				follows(t, "another one of no entries", none, other, proof, false)
			}
			for _, h := range some {
				follows(t, "some behind none", none, h, proof, true)
				follows(t, "none behind some", h, none, proof, false)
			}
		}
		for _, proof := range [][]int{{0}, {none.Log}, {5}, {-1}, {impl.MixMax}, {1, 2}, r.leaves(impl.TreMax), r.leaves(impl.TreMax + 1)} {
			follows(t, "none behind none, with a number", none, none, proof, false)
			for _, h := range some {
				follows(t, "some behind none, with a number", none, h, proof, false)
				follows(t, "some behind none, with their root", none, h, []int{h.Log}, false)
			}
		}
	}
}

// Both heads are of one size above 0: it must be the same one, and the proof that fits has no number.
func TestHedFollowsOfOneSize(t *testing.T) {
	r := &row{87}
	for size := 1; size <= impl.TreMax; size++ {
		list := r.log(size)
		for _, h := range []impl.HedHead{headAt(t, list, size), {Size: size}, {Size: size, Log: impl.MixMax - 1, Own: impl.MixMax - 1}, {Size: size, Log: r.below(impl.MixMax), Own: r.below(impl.MixMax)}} {
			follows(t, "the same", h, h, nil, true)
			follows(t, "the same", h, h, []int{}, true)
			for _, proof := range [][]int{{h.Log}, {0}, {-1}, impl.HedProof(append(list, list...), size), {h.Log, h.Log}, r.leaves(6), r.leaves(7)} {
				follows(t, "the same, with another proof", h, h, proof, len(proof) == 0)
			}
			for _, other := range otherHeads(h) {
				for _, proof := range [][]int{nil, {}, {h.Log}, {other.Log}, r.leaves(1), r.leaves(6)} {
					follows(t, "another one", h, other, proof, false)
					follows(t, "another one", other, h, proof, false)
				}
			}
		}
	}
}

// Of two sizes the roots of how tickets stand may be any: a proof tells of entries alone.
func TestHedFollowsWhereverTheProofLeads(t *testing.T) {
	everyGrowth(88, func(r *row, list []int, m int) {
		n := len(list)
		if m == n {
			return
		}
		proof := r.leaves(len(slowSpans(m, n)))
		first, all := slowLed(m, r.below(impl.MixMax), n, proof)
		for _, own := range []int{0, 5, impl.MixMax - 1, r.below(impl.MixMax)} {
			old, h := impl.HedHead{Size: m, Log: first, Own: own}, impl.HedHead{Size: n, Log: all, Own: r.below(impl.MixMax)}
			follows(t, "where it leads", old, h, proof, true)
			follows(t, "both with the same rows", old, impl.HedHead{Size: n, Log: all, Own: own}, proof, true)
			for _, by := range []int{1, impl.MixMax - 1, 1 + r.below(impl.MixMax-1)} {
				follows(t, "another root of all", old, impl.HedHead{Size: n, Log: (all + by) % impl.MixMax, Own: own}, proof, false)
			}
			for _, other := range otherHeads(old) {
				follows(t, "another first head", other, h, proof, slowFollows(other, h, proof))
			}
		}
	})
}

// A number more, a number less, a number turned; and numbers that are no mixed ones.
func TestHedFollowsOfTurnedProofs(t *testing.T) {
	r := &row{89}
	for n := 2; n <= impl.TreMax; n++ {
		list := r.log(n)
		all := headAt(t, list, n)
		for m := 1; m < n; m++ {
			old, proof := headAt(t, list, m), impl.HedProof(list, m)
			for at := range len(proof) + 1 {
				follows(t, "a number more", old, all, slices.Insert(slices.Clone(proof), at, r.below(impl.MixMax)), false)
			}
			for at := range proof {
				follows(t, "a number less", old, all, slices.Delete(slices.Clone(proof), at, at+1), false)
				for _, wrong := range append(noMixed(), proof[at]+impl.MixMax, proof[at]-impl.MixMax) {
					follows(t, "no mixed number", old, all, with(proof, at, wrong), false)
				}
				turned := with(proof, at, (proof[at]+1)%impl.MixMax)
				follows(t, "a number turned", old, all, turned, slowFollows(old, all, turned))
			}
			follows(t, "no number", old, all, nil, false)
			follows(t, "too many", old, all, r.leaves(impl.TreMax+1), false)
		}
	}
	heads, entries := sevenHeads(), sevenEntries()
	for m := 1; m < 7; m++ {
		proof := impl.HedProof(entries, m)
		for at := range proof {
			for by := 1; by < impl.MixMax; by += 97 {
				follows(t, "a known number turned", heads[m], heads[7], with(proof, at, (proof[at]+by)%impl.MixMax), false)
			}
		}
	}
}

// A proof of one beginning shows no other one; nor does one of other entries.
func TestHedFollowsOfOtherProofs(t *testing.T) {
	list, heads := sevenEntries(), sevenHeads()
	for n := range heads {
		for m := range heads {
			for of := range heads {
				for from := 1; from <= of; from++ {
					proof := impl.HedProof(list[:of], from)
					follows(t, "known heads", heads[m], heads[n], proof, slowFollows(heads[m], heads[n], proof))
					if m >= 1 && m < n && (m != from || n != of) {
						follows(t, "of another one", heads[m], heads[n], proof, false)
					}
				}
			}
		}
	}
}

func TestHedOfWrongHeads(t *testing.T) {
	list, heads := sevenEntries(), sevenHeads()
	for m, old := range heads {
		for n := m; n < len(heads); n++ {
			h, proof := heads[n], impl.HedProof(list[:n], m)
			follows(t, "right", old, h, proof, true)
			for _, wrong := range wrongHeads(old) {
				follows(t, "a first head that is not ok", wrong, h, proof, false)
				follows(t, "both not ok, and the same", wrong, wrong, proof, false)
				follows(t, "both not ok, and the same", wrong, wrong, nil, false)
				forks(t, "one is not ok", wrong, h, false)
				forks(t, "one is not ok", wrong, old, false)
			}
			for _, wrong := range wrongHeads(h) {
				follows(t, "a second head that is not ok", old, wrong, proof, false)
				follows(t, "a second head that is not ok", old, wrong, nil, false)
				forks(t, "one is not ok", old, wrong, false)
				for _, other := range wrongHeads(h) {
					forks(t, "both are not ok", wrong, other, false)
				}
			}
		}
	}
}

// There is no tree of so many entries, even with the proof that would lead there.
func TestHedFollowsOfTooMany(t *testing.T) {
	list := slowLeaves(backAndForth(impl.TreMax + 1))
	h := impl.HedHead{Size: len(list), Log: slowRoot(list), Own: 1}
	for m := range impl.TreMax + 1 {
		old := impl.HedHead{Size: m, Log: slowRoot(list[:m]), Own: 1}
		var proof []int
		if m > 0 {
			proof = slowGrown(list, m)
		}
		follows(t, "too many", old, h, proof, false)
	}
	follows(t, "too many, and the same", h, h, nil, false)
}

// HedFollows and HedFork of each pair of heads at the edges are as the document's cases have it. Promise 58, of which fork.
func TestHedOfEachPair(t *testing.T) {
	proofs := [][]int{nil, {0}, {5}, {impl.MixMax - 1}, {-1}, {impl.MixMax}, {0, 5}, {5, 7, 0}, make([]int, 6), make([]int, 41)}
	followed, forked := 0, 0
	for _, a := range edgeHeads() {
		for _, b := range edgeHeads() {
			want := slowHedOk(a) && slowHedOk(b) && a.Size == b.Size && (a.Log != b.Log || a.Own != b.Own)
			forks(t, "a pair", a, b, want)
			if want {
				forked++
			}
			for _, proof := range proofs {
				ahead := slowFollows(a, b, proof)
				follows(t, "a pair", a, b, proof, ahead)
				if ahead {
					followed++
				}
			}
		}
	}
	if followed < 100 || forked < 100 {
		t.Fatalf("%d followed, %d forked", followed, forked)
	}
}

func TestHedForkEdges(t *testing.T) {
	for _, size := range []int{0, 1, 7, impl.TreMax} {
		for _, h := range []impl.HedHead{{Size: size}, {Size: size, Log: impl.MixMax - 1, Own: impl.MixMax - 1}, {Size: size, Log: 5, Own: 39534}} {
			forks(t, "the same", h, h, false)
			for _, other := range otherHeads(h) {
				forks(t, "a root that differs", h, other, true)
				other.Size = (size + 1) % (impl.TreMax + 1)
				forks(t, "another size", h, other, false)
			}
			h.Size = impl.TreMax + 1
			forks(t, "not ok", h, impl.HedHead{Size: h.Size, Log: 1, Own: 2}, false)
			h.Size = math.MinInt
			forks(t, "not ok", h, impl.HedHead{Size: h.Size, Log: 1, Own: 2}, false)
		}
	}
}

// Promise 58, of one list; two that part ways fork from there on, unless their roots are the same by chance.
func TestHedForkOfLists(t *testing.T) {
	r := &row{90}
	for range 10 {
		list, other := r.log(impl.TreMax), r.log(impl.TreMax)
		forked := 0
		for m := range impl.TreMax + 1 {
			for n := range impl.TreMax + 1 {
				forks(t, "one list", headAt(t, list, m), headAt(t, list, n), false)
				a, b := headAt(t, list, m), headAt(t, other, n)
				forks(t, "two lists", a, b, m == n && a != b)
			}
			if headAt(t, list, m) != headAt(t, other, m) {
				forked++
			}
		}
		if forked < impl.TreMax-3 {
			t.Fatalf("of two lists %d heads fork", forked)
		}
	}
}

// Of two heads of one size that fork neither follows the other one, whatever is shown.
func TestHedForkNeverFollows(t *testing.T) {
	r := &row{91}
	for size := range impl.TreMax + 1 {
		h := impl.HedHead{Size: size, Log: r.below(impl.MixMax), Own: r.below(impl.MixMax)}
		for _, other := range otherHeads(h) {
			for n := range 8 {
				forks(t, "one size", h, other, true)
				follows(t, "a fork", h, other, r.leaves(n), false)
				follows(t, "a fork", other, h, r.leaves(n), false)
			}
		}
	}
}
