package tests

import (
	"math"
	"slices"
	"testing"

	"loop.example/stileway/impl"
)

// slowWatOk is WatOk, each head held against all behind it.
func slowWatOk(list []impl.HedHead) bool {
	for i, h := range list {
		if !slowHedOk(h) || slices.ContainsFunc(list[i+1:], func(other impl.HedHead) bool { return other.Size <= h.Size }) {
			return false
		}
	}
	return len(list) <= 12
}

// slowSee is WatSee, a case behind the other; heads are put in their place size by size.
func slowSee(list []impl.HedHead, h impl.HedHead) ([]impl.HedHead, impl.HedHead, bool) {
	if !slowWatOk(list) || !slowHedOk(h) {
		return list, impl.HedHead{}, false
	}
	var kept []impl.HedHead
	for size := range 41 {
		for _, other := range list {
			if other.Size == size && size == h.Size {
				return list, other, other.Log != h.Log || other.Own != h.Own
			}
			if other.Size == size {
				kept = append(kept, other)
			}
		}
		if size == h.Size {
			kept = append(kept, h)
		}
	}
	if len(list) == 12 {
		return list, impl.HedHead{}, false
	}
	return kept, impl.HedHead{}, false
}

// slowMeet is WatMeet, from the least size on.
func slowMeet(a []impl.HedHead, b []impl.HedHead) (impl.HedHead, impl.HedHead, bool) {
	if !slowWatOk(a) || !slowWatOk(b) {
		return impl.HedHead{}, impl.HedHead{}, false
	}
	bySize := map[int]impl.HedHead{}
	for _, h := range b {
		bySize[h.Size] = h
	}
	for _, h := range a {
		if other, there := bySize[h.Size]; there && other != h {
			return h, other, true
		}
	}
	return impl.HedHead{}, impl.HedHead{}, false
}

// sees asks what WatSee answers, and is the heads that are kept then.
func sees(t *testing.T, what string, list []impl.HedHead, h impl.HedHead) []impl.HedHead {
	t.Helper()
	got, with, fork := impl.WatSee(list, h)
	want, wantWith, wantFork := slowSee(list, h)
	if !slices.Equal(got, want) || with != wantWith || fork != wantFork {
		t.Fatalf("%s: WatSee(%v, %v) is %v, %v and %v; not %v, %v and %v", what, list, h, got, with, fork, want, wantWith, wantFork)
	}
	if slowWatOk(list) && !impl.WatOk(got) {
		t.Fatalf("%s: WatSee(%v, %v) keeps %v", what, list, h, got)
	}
	return got
}

// meets asks what WatMeet answers, and the same the other way round.
func meets(t *testing.T, what string, a []impl.HedHead, b []impl.HedHead) bool {
	t.Helper()
	one, other, fork := impl.WatMeet(a, b)
	wantOne, wantOther, want := slowMeet(a, b)
	if one != wantOne || other != wantOther || fork != want {
		t.Fatalf("%s: WatMeet(%v, %v) is %v, %v and %v; not %v, %v and %v", what, a, b, one, other, fork, wantOne, wantOther, want)
	}
	back, forth, again := impl.WatMeet(b, a)
	if back != other || forth != one || again != fork {
		t.Fatalf("%s: WatMeet(%v, %v) is %v, %v and %v, and the other way round %v, %v and %v", what, a, b, one, other, fork, back, forth, again)
	}
	return fork
}

func allOf(t *testing.T, what string, list []impl.HedHead, log []impl.EntEntry, want bool) {
	t.Helper()
	if got := impl.WatAll(list, log); got != want {
		t.Fatalf("%s: WatAll(%v, %v) is %v", what, list, log, got)
	}
}

// sizes is n sizes of heads, rising.
func (r *row) sizes(n int) []int {
	all := make([]int, impl.TreMax+1)
	for i := range all {
		all[i] = i
	}
	for len(all) > n {
		at := r.below(len(all))
		all = slices.Delete(all, at, at+1)
	}
	return all
}

// kept is n heads, rising, with roots by chance; few roots, so that some are the same.
func (r *row) kept(n int) []impl.HedHead {
	var list []impl.HedHead
	for _, size := range r.sizes(n) {
		list = append(list, impl.HedHead{Size: size, Log: r.below(2), Own: r.below(2)})
	}
	return list
}

// keptOf is n heads of a log, rising.
func (r *row) keptOf(t *testing.T, log []impl.EntEntry, n int) []impl.HedHead {
	t.Helper()
	var list []impl.HedHead
	for _, size := range r.sizes(n) {
		list = append(list, headAt(t, log, size))
	}
	return list
}

// wrongKept is heads, turned so that they are not kept as they must be; at most WatMax of them are given.
func wrongKept(r *row, list []impl.HedHead) [][]impl.HedHead {
	long := r.kept(impl.WatMax + 1)
	wrong := [][]impl.HedHead{long, r.kept(impl.WatMax + 2), r.kept(impl.TreMax + 1)}
	for i, h := range list {
		wrong = append(wrong, slices.Insert(slices.Clone(list), i, h), append(slices.Clone(list), h))
		for _, other := range wrongHeads(h) {
			wrong = append(wrong, with(list, i, other))
		}
		for j := range i {
			wrong = append(wrong, with(with(list, i, list[j]), j, h))
		}
	}
	return wrong
}

func TestWatMax(t *testing.T) {
	if impl.WatMax != 12 {
		t.Fatalf("WatMax is %d", impl.WatMax)
	}
}

func TestWatOk(t *testing.T) {
	r := &row{130}
	for n := range impl.TreMax + 2 {
		for range 10 {
			list := r.kept(n)
			if got := impl.WatOk(list); got != (n <= 12) {
				t.Fatalf("WatOk of %d heads is %v: %v", n, got, list)
			}
			for _, wrong := range wrongKept(r, list) {
				if n <= 12 && (impl.WatOk(wrong) || slowWatOk(wrong)) {
					t.Fatalf("%v are not kept as they must be", wrong)
				}
			}
		}
	}
	if !impl.WatOk(nil) || !impl.WatOk([]impl.HedHead{}) || !impl.WatOk([]impl.HedHead{{}}) || !impl.WatOk(sevenHeads()) || !impl.WatOk([]impl.HedHead{{Size: 0}, {Size: impl.TreMax, Log: impl.MixMax - 1, Own: impl.MixMax - 1}}) {
		t.Fatal("no heads, one, and those at the edges are kept as they must be")
	}
	for _, a := range edgeHeads() {
		if got := impl.WatOk([]impl.HedHead{a}); got != slowHedOk(a) {
			t.Fatalf("WatOk of %v alone is %v", a, got)
		}
		for _, b := range edgeHeads() {
			list := []impl.HedHead{a, b}
			if got := impl.WatOk(list); got != slowWatOk(list) {
				t.Fatalf("WatOk of %v is %v", list, got)
			}
		}
	}
}

// Known heads, seen in any order, are kept one of each size, rising; each that forks with one of them is told.
func TestWatSeeKnown(t *testing.T) {
	heads := sevenHeads()
	for _, order := range [][]int{{0, 1, 2, 3, 4, 5, 6, 7}, {7, 6, 5, 4, 3, 2, 1, 0}, {4, 0, 7, 2, 6, 1, 5, 3}, {1, 1, 0, 7, 0, 3, 2, 2, 6, 5, 4, 4}} {
		var kept []impl.HedHead
		for _, at := range order {
			kept = sees(t, "known", kept, heads[at])
		}
		sameList(t, "all", kept, heads)
	}
	for size, h := range heads {
		got, with, fork := impl.WatSee(heads, h)
		sameList(t, "one that is there", got, heads)
		if with != h || fork {
			t.Fatalf("%v is there, and forks with nothing: %v and %v", h, with, fork)
		}
		for _, other := range otherHeads(h) {
			got, with, fork = impl.WatSee(heads, other)
			sameList(t, "one that forks", got, heads)
			if with != heads[size] || !fork {
				t.Fatalf("%v forks with %v: %v and %v", other, h, with, fork)
			}
		}
	}
}

// Promise 61, of each size, beside each number of heads.
func TestWatSee(t *testing.T) {
	r := &row{131}
	for n := range impl.WatMax + 1 {
		for range 20 {
			list := r.kept(n)
			for size := -1; size <= impl.TreMax+1; size++ {
				for log := range 2 {
					for own := range 2 {
						sees(t, "any", list, impl.HedHead{Size: size, Log: log, Own: own})
					}
				}
			}
			for _, h := range edgeHeads() {
				sees(t, "at the edges", list, h)
			}
		}
	}
}

// One head is put ahead of all, behind all, and between any two, with nothing told.
func TestWatSeeInItsPlace(t *testing.T) {
	r := &row{132}
	for n := 1; n <= impl.WatMax; n++ {
		list := r.kept(n)
		for i, h := range list {
			without := slices.Delete(slices.Clone(list), i, i+1)
			got, with, fork := impl.WatSee(without, h)
			sameList(t, "in its place", got, list)
			if with != (impl.HedHead{}) || fork {
				t.Fatalf("WatSee(%v, %v) tells of %v, %v", without, h, with, fork)
			}
		}
	}
	one, _, _ := impl.WatSee(nil, impl.HedHead{Size: 3})
	sameList(t, "the first one", one, []impl.HedHead{{Size: 3}})
	one, _, _ = impl.WatSee([]impl.HedHead{}, impl.HedHead{})
	sameList(t, "nothing is a head, too", one, []impl.HedHead{{}})
}

// With WatMax heads none is put there any more; but one that forks is still told, and one that is there is found.
func TestWatSeeWithNoRoom(t *testing.T) {
	r := &row{133}
	for range 50 {
		full := r.kept(impl.WatMax)
		for size := range impl.TreMax + 1 {
			at := slices.IndexFunc(full, func(h impl.HedHead) bool { return h.Size == size })
			h := impl.HedHead{Size: size, Log: 7, Own: 7}
			got, with, fork := impl.WatSee(full, h)
			sameList(t, "no room", got, full)
			if at < 0 && (with != (impl.HedHead{}) || fork) {
				t.Fatalf("none of %v has the size of %v: %v and %v", full, h, with, fork)
			}
			if at >= 0 && (with != full[at] || !fork) {
				t.Fatalf("%v forks with one of %v: %v and %v", h, full, with, fork)
			}
		}
		for _, h := range full {
			if _, with, fork := impl.WatSee(full, h); with != h || fork {
				t.Fatalf("%v is one of %v: %v and %v", h, full, with, fork)
			}
		}
		almost := full[:impl.WatMax-1]
		sameList(t, "room for one", sees(t, "room for one", almost, full[impl.WatMax-1]), full)
	}
}

// Heads that are not kept as they must be stay in their order, and nothing is told of them; nor is of a head that is not ok.
func TestWatSeeWrong(t *testing.T) {
	r := &row{134}
	for n := 1; n <= impl.WatMax; n++ {
		list := r.kept(n)
		for _, wrong := range wrongKept(r, list) {
			for _, h := range []impl.HedHead{list[0], {Size: list[n-1].Size, Log: 9, Own: 9}, {Size: r.below(41)}, {Size: impl.TreMax, Log: 3}} {
				got, with, fork := impl.WatSee(wrong, h)
				sameList(t, "as they are", got, wrong)
				if with != (impl.HedHead{}) || fork {
					t.Fatalf("WatSee(%v, %v) tells of %v, %v", wrong, h, with, fork)
				}
			}
		}
		for _, h := range list {
			for _, wrong := range wrongHeads(h) {
				got, with, fork := impl.WatSee(list, wrong)
				sameList(t, "no head", got, list)
				if with != (impl.HedHead{}) || fork {
					t.Fatalf("WatSee(%v, %v) tells of %v, %v", list, wrong, with, fork)
				}
			}
		}
	}
}

// Promise 61, of heads one behind the other: of each size the first one is kept, as long as there is room.
func TestWatSeeOneOfEachSize(t *testing.T) {
	r, forked := &row{135}, 0
	for range 100 {
		var kept []impl.HedHead
		first := map[int]impl.HedHead{}
		for range 60 {
			h := impl.HedHead{Size: r.below(15), Log: r.below(3), Own: r.below(3)}
			before, there := first[h.Size]
			next, with, fork := impl.WatSee(kept, h)
			if fork != (there && before != h) || there && with != before {
				t.Fatalf("%v behind %v: %v and %v", h, before, with, fork)
			}
			if fork {
				forked++
				sameList(t, "not kept", next, kept)
			}
			if !there && len(first) < impl.WatMax {
				first[h.Size] = h
			}
			if len(next) != len(first) || !impl.WatOk(next) {
				t.Fatalf("%v are kept of %v", next, first)
			}
			for _, one := range next {
				if first[one.Size] != one {
					t.Fatalf("%v are kept of %v", next, first)
				}
			}
			kept = next
		}
	}
	if forked < 1000 {
		t.Fatalf("only %d forked", forked)
	}
}

// Promise 13: it is true just if one of a and one of b fork; the first pair is told.
func TestWatMeet(t *testing.T) {
	r, told := &row{136}, map[bool]int{}
	for range 20 {
		for n := range impl.WatMax + 1 {
			for m := range impl.WatMax + 1 {
				a, b := r.kept(n), r.kept(m)
				fork := meets(t, "any", a, b)
				two := slices.ContainsFunc(a, func(one impl.HedHead) bool {
					return slices.ContainsFunc(b, func(other impl.HedHead) bool { return impl.HedFork(one, other) })
				})
				if fork != two {
					t.Fatalf("WatMeet(%v, %v) is %v, HedFork of two is %v", a, b, fork, two)
				}
				told[fork]++
				meets(t, "themselves", a, a)
			}
		}
	}
	if told[true] < 100 || told[false] < 100 {
		t.Fatalf("there were %v", told)
	}
}

// Of several pairs that fork the first of a is told, with its own of b.
func TestWatMeetTellsTheFirst(t *testing.T) {
	heads := sevenHeads()
	for bits := range 256 {
		other, first := slices.Clone(heads), -1
		for size := 7; size >= 0; size-- {
			if bits>>size&1 == 1 {
				other[size], first = otherHeads(heads[size])[size%3], size
			}
		}
		one, with, fork := impl.WatMeet(heads, other)
		if first < 0 {
			if one != (impl.HedHead{}) || with != (impl.HedHead{}) || fork {
				t.Fatalf("WatMeet of the same heads tells of %v, %v and %v", one, with, fork)
			}
			continue
		}
		if one != heads[first] || with != other[first] || !fork {
			t.Fatalf("WatMeet(%v, %v) is %v, %v and %v", heads, other, one, with, fork)
		}
		meets(t, "the other way round", other, heads)
		meets(t, "some of them", heads[first:], other)
		meets(t, "without the first", heads, other[first+1:])
	}
}

func TestWatMeetEdges(t *testing.T) {
	r := &row{137}
	for n := range impl.WatMax + 1 {
		list := r.kept(n)
		for _, none := range [][]impl.HedHead{nil, {}} {
			if meets(t, "with nobody", list, none) {
				t.Fatalf("%v forks with none", list)
			}
		}
	}
	for size := range impl.TreMax + 1 {
		h := impl.HedHead{Size: size, Log: 5, Own: 6}
		for _, other := range otherHeads(h) {
			if !meets(t, "one and one", []impl.HedHead{h}, []impl.HedHead{other}) {
				t.Fatalf("%v and %v fork", h, other)
			}
			if other.Size = (size + 1) % 41; meets(t, "another size", []impl.HedHead{h}, []impl.HedHead{other}) {
				t.Fatalf("%v and %v do not fork", h, other)
			}
		}
	}
}

// Whoever keeps heads as they must not be kept is told of no fork, though there is one.
func TestWatMeetWrong(t *testing.T) {
	r := &row{138}
	for n := 1; n <= impl.WatMax; n++ {
		list := r.kept(n)
		other := slices.Clone(list)
		for i := range other {
			other[i].Log += 9
		}
		if !meets(t, "right", list, other) {
			t.Fatalf("%v and %v fork", list, other)
		}
		for _, wrong := range wrongKept(r, list) {
			if meets(t, "one is not ok", wrong, other) || meets(t, "both are not ok", wrong, wrong) {
				t.Fatalf("%v are not kept as they must be", wrong)
			}
		}
	}
	long := r.kept(impl.WatMax + 1)
	turned := with(long, 0, impl.HedHead{Size: long[0].Size, Log: 9, Own: 9})
	if meets(t, "too many", long, turned) || !meets(t, "as many as may be", long[:impl.WatMax], turned[:impl.WatMax]) {
		t.Fatalf("%v are too many, without the last one they are not", long)
	}
	if meets(t, "not ok", []impl.HedHead{{Size: -1}}, []impl.HedHead{{Size: -1, Log: 1}}) || meets(t, "not ok", []impl.HedHead{{Size: math.MaxInt}}, []impl.HedHead{{Size: math.MaxInt, Log: 1}}) {
		t.Fatal("heads that are not ok do not fork")
	}
}

// Promise 13, of one log: whoever keeps its heads does not fork; and of two logs the first size is told where their heads part.
func TestWatMeetOfLogs(t *testing.T) {
	r, forked := &row{139}, 0
	for range 200 {
		log, begin := r.log(impl.TreMax), r.below(impl.TreMax)
		other := otherEnd(r, log, begin)
		a, b, c := r.keptOf(t, log, r.below(13)), r.keptOf(t, log, r.below(13)), r.keptOf(t, other, r.below(13))
		allOf(t, "its own", a, log, true)
		allOf(t, "its own", b, log, true)
		allOf(t, "its own", c, other, true)
		if meets(t, "one log", a, b) {
			t.Fatalf("%v and %v are of one log", a, b)
		}
		if meets(t, "two logs", a, c) {
			forked++
			if one, _, _ := impl.WatMeet(a, c); one.Size <= begin {
				t.Fatalf("the logs are the same up to %d, and fork at %v", begin, one)
			}
			if impl.WatAll(a, other) || impl.WatAll(c, log) {
				t.Fatalf("%v and %v fork, and are of one log", a, c)
			}
		}
	}
	if forked < 20 {
		t.Fatalf("only %d forked", forked)
	}
}

// otherEnd is a log of as many entries with the same beginning, and, if chance will have it, another end.
func otherEnd(r *row, log []impl.EntEntry, begin int) []impl.EntEntry {
	list := slices.Clone(log[:begin])
	for len(list) < len(log) {
		rows, _ := slowFold(list)
		for {
			e := impl.EntEntry{Kind: 1 + r.below(2), Ticket: r.below(impl.TikMax), Who: 1 + r.below(impl.UsrMax), Price: 1 + r.below(60)}
			if slowFits(rows[e.Ticket], e) {
				list = append(list, e)
				break
			}
		}
	}
	return list
}

// Promise 62.
func TestWatAll(t *testing.T) {
	r := &row{140}
	for n := range impl.TreMax + 1 {
		log := r.log(n)
		for range 4 {
			var list []impl.HedHead
			for _, size := range r.sizes(r.below(impl.WatMax + 1)) {
				if size <= n {
					list = append(list, headAt(t, log, size))
				}
			}
			allOf(t, "its heads", list, log, true)
			for i, h := range list {
				for _, other := range otherHeads(h) {
					allOf(t, "one is another one", with(list, i, other), log, false)
				}
				for _, wrong := range wrongHeads(h) {
					allOf(t, "one is not ok", with(list, i, wrong), log, false)
				}
				allOf(t, "entries that are not there any more", list[i:], log[:max(0, h.Size-1)], len(log[:max(0, h.Size-1)]) >= list[len(list)-1].Size)
			}
			if len(list) > 0 {
				for _, wrong := range wrongKept(r, list) {
					allOf(t, "not kept as they must be", wrong, log, false)
				}
			}
		}
	}
}

// Each head is one of the log's, but they are not kept as they must be.
func TestWatAllOfTooMany(t *testing.T) {
	log := (&row{141}).log(impl.TreMax)
	var heads []impl.HedHead
	for size := range impl.TreMax + 1 {
		heads = append(heads, headAt(t, log, size))
	}
	for from := range heads {
		for to := from; to <= len(heads); to++ {
			allOf(t, "some behind each other", heads[from:to], log, to-from <= 12)
		}
	}
	allOf(t, "falling", []impl.HedHead{heads[5], heads[4]}, log, false)
	allOf(t, "one twice", []impl.HedHead{heads[5], heads[5]}, log, false)
	allOf(t, "rising", []impl.HedHead{heads[4], heads[5]}, log, true)
}

// What stands behind the last head does not count; what stands ahead of it does.
func TestWatAllEdges(t *testing.T) {
	list, heads := sevenEntries(), sevenHeads()
	allOf(t, "all", heads, list, true)
	for _, none := range [][]impl.HedHead{nil, {}} {
		for _, log := range [][]impl.EntEntry{nil, list, {{}}, {{Kind: 9}}, backAndForth(impl.TreMax + 1)} {
			allOf(t, "no heads", none, log, true)
			allOf(t, "the head of none", heads[:1], log, true)
			allOf(t, "nothing", []impl.HedHead{{}}, log, false)
		}
	}
	for size := range list {
		broken := with(list, size, impl.EntEntry{Kind: impl.EntPass, Ticket: 5, Who: 2, Price: 1})
		allOf(t, "ahead of the break", heads[:size+1], broken, true)
		for last := size + 1; last <= len(list); last++ {
			allOf(t, "the break is among them", heads[:last+1], broken, false)
			allOf(t, "the break is among them", heads[last:last+1], broken, false)
			allOf(t, "only spare room is left", heads[last:last+1], list[:size], false)
			allOf(t, "only spare room is left", heads[:last+1], list[:size], false)
		}
	}
	long := backAndForth(impl.TreMax + 4)
	all := headAt(t, long, impl.TreMax)
	allOf(t, "the first TreMax of more", []impl.HedHead{headAt(t, long, 1), all}, long, true)
	all.Size++
	allOf(t, "more than TreMax", []impl.HedHead{all}, long, false)
}
