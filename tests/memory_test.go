package tests

import (
	"slices"
	"strconv"
	"testing"

	"loop.example/stileway/impl"
)

// guard is a list in the middle of a greater one, so that what is written ahead of it, into it or behind its end is seen.
type guard[T comparable] struct {
	whole, before []T
	from, to      int
}

// untouched is what each guard can be asked, whatever its list is of.
type untouched interface {
	untouched(t *testing.T, what string)
}

// junk is what no call writes by itself.
func junk[T any](n int) T {
	var j T
	switch p := any(&j).(type) {
	case *int:
		*p = -91 - n
	case *string:
		*p = "junk " + strconv.Itoa(n)
	case *impl.EntEntry:
		*p = impl.EntEntry{Kind: -91 - n, Ticket: -92, Who: -93, Price: -94}
	case *impl.OwnRow:
		*p = impl.OwnRow{Who: -91 - n, Face: -92, Used: true}
	case *impl.MktDeal:
		*p = impl.MktDeal{Ticket: -91 - n, Seller: -92, Price: -93, Buyer: -94, Due: -95}
	case *impl.HedHead:
		*p = impl.HedHead{Size: -91 - n, Log: -92, Own: -93}
	case *impl.WldLine:
		*p = impl.WldLine{Req: impl.MktReq{User: -91 - n, N: -92, Kind: -93, Ticket: -94, Who: -95, Price: -96}}
	case *impl.GatGate:
		*p = impl.GatGate{Head: junk[impl.HedHead](n), Done: []int{-91 - n}}
	case *impl.WldMsg:
		*p = impl.WldMsg{Gate: -91 - n, Head: junk[impl.HedHead](n), Proof: []int{-92}}
	case *impl.EvEvent:
		*p = impl.EvEvent{Kind: -91 - n, At: -92, Ticket: -93, Who: -94}
	}
	return j
}

func guarded[T comparable](list []T) *guard[T] {
	g := &guard[T]{from: 3, to: 3 + len(list)}
	for n := range g.from {
		g.whole = append(g.whole, junk[T](n))
	}
	g.whole = append(g.whole, list...)
	for n := range 9 {
		g.whole = append(g.whole, junk[T](g.from+n))
	}
	g.before = slices.Clone(g.whole)
	return g
}

// list is the list, with the rest of the greater one as its spare room.
func (g *guard[T]) list() []T {
	return g.whole[g.from:g.to]
}

func (g *guard[T]) untouched(t *testing.T, what string) {
	t.Helper()
	if !slices.Equal(g.whole, g.before) {
		t.Fatalf("%s: what was given is now %v, it was %v", what, g.whole, g.before)
	}
}

// spoil writes all over an answer, its spare room included.
func spoil[T any](answer []T) {
	answer = answer[:cap(answer)]
	for i := range answer {
		answer[i] = junk[T](-14)
	}
}

// newMemory makes a call twice and spoils what it answered first: neither what was given nor the second answer may turn by that.
func newMemory[T comparable](t *testing.T, what string, call func() []T, given ...untouched) {
	t.Helper()
	first := call()
	for _, g := range given {
		g.untouched(t, what)
	}
	want := slices.Clone(first)
	second := call()
	spoil(first)
	for _, g := range given {
		g.untouched(t, what+", its answer written over")
	}
	sameList(t, what+", the second answer", second, want)
	sameList(t, what+", once more", call(), want)
}

func TestMemoryOfNumbers(t *testing.T) {
	for n := range impl.TreMax + 3 {
		g := guarded((&row{20}).leaves(n))
		newMemory(t, "MixLeaf", func() []int { return []int{impl.MixLeaf(g.list())} }, g)
		newMemory(t, "TreRoot", func() []int { return []int{impl.TreRoot(g.list())} }, g)
		impl.TreOk(g.list())
		g.untouched(t, "TreOk")
		for i := -1; i <= n; i++ {
			impl.TreUp(n, i, 9, g.list())
			g.untouched(t, "TreUp")
			impl.TreCheck(9, n, i, 9, g.list())
			g.untouched(t, "TreCheck")
		}
	}
}

func TestMemoryOfProofs(t *testing.T) {
	for n := range impl.TreMax + 3 {
		g := guarded((&row{21}).leaves(n))
		for i := -1; i <= n; i++ {
			newMemory(t, "TreProof", func() []int { return impl.TreProof(g.list(), i) }, g)
		}
	}
	everyLeaf(22, func(r *row, list []int, i int) {
		g := guarded(impl.TreProof(list, i))
		impl.TreUp(len(list), i, list[i], g.list())
		g.untouched(t, "TreUp")
		impl.TreCheck(impl.TreRoot(list), len(list), i, list[i], g.list())
		g.untouched(t, "TreCheck")
	})
}

func TestMemoryOfClashes(t *testing.T) {
	everyLeaf(23, func(r *row, list []int, i int) {
		leaves := guarded(list)
		for at := range ladder(list, i) {
			leaf := (list[i] + 1) % impl.MixMax
			proof, _, ok := forged(r, list, i, leaf, at)
			if ok {
				beside := guarded(proof)
				newMemory(t, "TreClash", func() []int { return impl.TreClash(leaves.list(), i, leaf, beside.list()) }, leaves, beside)
			}
		}
		beside := guarded(impl.TreProof(list, i))
		newMemory(t, "TreClash", func() []int { return impl.TreClash(leaves.list(), i, list[i], beside.list()) }, leaves, beside)
	})
}

func TestMemoryOfGrowth(t *testing.T) {
	for n := range impl.TreMax + 3 {
		leaves := guarded((&row{24}).leaves(n))
		for m := -1; m <= n+1; m++ {
			newMemory(t, "ConProof", func() []int { return impl.ConProof(leaves.list(), m) }, leaves)
			proof := guarded(impl.ConProof(leaves.list(), m))
			for _, old := range []int{-1, 9, impl.TreRoot(leaves.list()[:max(0, min(m, n))])} {
				impl.ConCheck(m, old, n, impl.TreRoot(leaves.list()), proof.list())
				proof.untouched(t, "ConCheck")
				impl.ConCheck(m, old, n, old, leaves.list())
				leaves.untouched(t, "ConCheck")
			}
		}
	}
}

func TestMemoryOfEntries(t *testing.T) {
	r := &row{25}
	for n := range impl.TreMax + 3 {
		g := guarded(r.entries(n))
		newMemory(t, "EntLeaves", func() []int { return impl.EntLeaves(g.list()) }, g)
		for ticket := -1; ticket <= impl.TikMax; ticket++ {
			newMemory(t, "EntAbout", func() []impl.EntEntry { return impl.EntAbout(g.list(), ticket) }, g)
		}
	}
	one := guarded([]impl.EntEntry{{Kind: impl.EntEnter, Ticket: 3, Who: 2}})
	newMemory(t, "EntAbout, all of it", func() []impl.EntEntry { return impl.EntAbout(one.list(), 3) }, one)
}

func TestMemoryOfFolds(t *testing.T) {
	r := &row{26}
	for n := range impl.TreMax + 3 {
		for _, list := range [][]impl.EntEntry{r.log(n), r.entries(n)} {
			g := guarded(list)
			newMemory(t, "OwnFold", func() []impl.OwnRow { rows, _ := impl.OwnFold(g.list()); return rows }, g)
		}
	}
}

func TestMemoryOfRows(t *testing.T) {
	r := &row{27}
	for n := range 2 * impl.TikMax {
		for _, rows := range [][]impl.OwnRow{r.rows(n), r.anyRows(n)} {
			g := guarded(rows)
			for _, e := range []impl.EntEntry{{Kind: 1, Ticket: r.below(8), Who: 2, Price: 5}, {Kind: 2, Ticket: r.below(8), Who: 1, Price: 1}, {Kind: 3, Ticket: r.below(8), Who: 1 + r.below(5)}, {}} {
				newMemory(t, "OwnPut", func() []impl.OwnRow { put, _ := impl.OwnPut(g.list(), e); return put }, g)
				impl.OwnFits(g.list(), e)
				g.untouched(t, "OwnFits")
			}
			for i := -1; i <= impl.TikMax; i++ {
				newMemory(t, "OwnProof", func() []int { return impl.OwnProof(g.list(), i) }, g)
				newMemory(t, "OwnOf", func() []int { return impl.OwnOf(g.list(), i) }, g)
				impl.OwnCount(g.list(), i)
				g.untouched(t, "OwnCount")
			}
			impl.OwnOk(g.list())
			impl.OwnRoot(g.list())
			g.untouched(t, "OwnOk and OwnRoot")
		}
	}
}

// What is put may be put upon again, and the rows ahead of it stay what they were.
func TestMemoryOfRowsPutTwice(t *testing.T) {
	r := &row{28}
	list := r.log(impl.TreMax)
	ahead := make([]impl.OwnRow, impl.TikMax)
	for i, e := range list {
		g := guarded(ahead)
		rows, ok := impl.OwnPut(g.list(), e)
		if !ok {
			t.Fatalf("%v may not follow as the %d of %v", e, i, list)
		}
		want := slices.Clone(rows)
		spoilt, _ := impl.OwnPut(rows, impl.EntEntry{Kind: impl.EntPass, Ticket: e.Ticket, Who: 1 + e.Who%impl.UsrMax, Price: 1})
		spoil(spoilt)
		sameList(t, "rows that were put upon", rows, want)
		g.untouched(t, "OwnPut")
		ahead = rows
	}
}

func TestMemoryOfOwnProofs(t *testing.T) {
	r := &row{29}
	for range 20 {
		rows := r.rows(impl.TikMax)
		for ticket := -1; ticket <= impl.TikMax; ticket++ {
			for _, proof := range [][]int{impl.OwnProof(rows, ticket), r.leaves(3), r.leaves(r.below(6)), noMixed()} {
				g := guarded(proof)
				impl.OwnCheck(impl.OwnRoot(rows), ticket, rows[0], g.list())
				g.untouched(t, "OwnCheck")
			}
		}
	}
}

func TestMemoryOfPurses(t *testing.T) {
	r := &row{30}
	for _, purses := range append(wrongPurses(), r.purses(impl.UsrMax), make([]int, impl.UsrMax), slices.Repeat([]int{impl.MonMax}, impl.UsrMax), []int{0, 1, 50000, impl.MonMax - 1, impl.MonMax}) {
		g := guarded(purses)
		for who := 0; who <= impl.UsrMax+1; who++ {
			for _, n := range []int{0, 1, -1, impl.MonMax, -impl.MonMax, impl.MonMax + 1} {
				newMemory(t, "MonTurn", func() []int { turned, _ := impl.MonTurn(g.list(), who, n); return turned }, g)
				for _, to := range []int{0, 1, who, impl.UsrMax, impl.UsrMax + 1} {
					newMemory(t, "MonMove", func() []int { moved, _ := impl.MonMove(g.list(), who, to, n); return moved }, g)
				}
			}
			impl.MonHas(g.list(), who)
			g.untouched(t, "MonHas")
		}
		impl.MonOk(g.list())
		impl.MonSum(g.list())
		g.untouched(t, "MonOk and MonSum")
		newHouse(t, "MktNew", func() impl.MktHouse { return impl.MktNew(g.list()) }, g)
	}
}

// houseGuard is a market each list of which is a guarded one.
type houseGuard struct {
	log                *guard[impl.EntEntry]
	deals              *guard[impl.MktDeal]
	purses, nums, said *guard[int]
	clock              int
}

func guardedHouse(m impl.MktHouse) *houseGuard {
	return &houseGuard{guarded(m.Log), guarded(m.Deals), guarded(m.Purses), guarded(m.Nums), guarded(m.Said), m.Clock}
}

func (g *houseGuard) house() impl.MktHouse {
	return impl.MktHouse{Log: g.log.list(), Purses: g.purses.list(), Deals: g.deals.list(), Clock: g.clock, Nums: g.nums.list(), Said: g.said.list()}
}

func (g *houseGuard) untouched(t *testing.T, what string) {
	t.Helper()
	g.log.untouched(t, what+", entries")
	g.deals.untouched(t, what+", deals")
	for _, list := range []*guard[int]{g.purses, g.nums, g.said} {
		list.untouched(t, what+", numbers")
	}
}

// apart asks that no two lists share anything, their spare room included.
func apart(t *testing.T, what string, lists ...[]int) {
	t.Helper()
	for n, list := range lists {
		for i := range list[:cap(list)] {
			list[:cap(list)][i] = n
		}
	}
	for n, list := range lists {
		for i, is := range list[:cap(list)] {
			if is != n {
				t.Fatalf("%s: of %d lists the %d shares its place %d with the %d", what, len(lists), n, i, is)
			}
		}
	}
}

// newHouse is newMemory of a market: each of its lists is written over.
func newHouse(t *testing.T, what string, call func() impl.MktHouse, given ...untouched) {
	t.Helper()
	first := call()
	for _, g := range given {
		g.untouched(t, what)
	}
	want := cloned(first)
	second := call()
	spoil(first.Log)
	spoil(first.Deals)
	apart(t, what, first.Purses, first.Nums, first.Said)
	for _, g := range given {
		g.untouched(t, what+", its answer written over")
	}
	sameHouse(t, what+", the second answer", second, want)
	sameHouse(t, what+", once more", call(), want)
}

func TestMemoryOfMarkets(t *testing.T) {
	r := &row{31}
	houses := []impl.MktHouse{shelf(), {}, bench(6), bench(impl.TreMax)}
	for range 150 {
		houses = append(houses, r.market(), r.anyMarket())
	}
	for _, c := range wrongTurns() {
		houses = append(houses, turned(shelf(), c.turn))
	}
	for _, m := range houses {
		g := guardedHouse(m)
		newHouse(t, "MktTick", func() impl.MktHouse { ticked, _ := impl.MktTick(g.house()); return ticked }, g)
		newMemory(t, "MktRows", func() []impl.OwnRow { return impl.MktRows(g.house()) }, g)
		newMemory(t, "MktOffers", func() []int { return impl.MktOffers(g.house()) }, g)
		for who := -1; who <= impl.UsrMax+1; who++ {
			newMemory(t, "MktFor", func() []int { return impl.MktFor(g.house(), who) }, g)
		}
		for ticket := -1; ticket <= impl.TikMax; ticket++ {
			impl.MktDealOf(g.house(), ticket)
		}
		impl.MktOk(g.house())
		impl.MktHeld(g.house())
		g.untouched(t, "MktDealOf, MktOk and MktHeld")
	}
}

func TestMemoryOfDeeds(t *testing.T) {
	r := &row{32}
	for range 200 {
		m := r.market()
		g := guardedHouse(m)
		for _, q := range append(plainRequests(), r.request(m), r.request(m), r.request(m), r.request(m), impl.MktReq{}) {
			newHouse(t, "MktDo", func() impl.MktHouse { done, _ := impl.MktDo(g.house(), q); return done }, g)
		}
	}
	for ticket := range 6 {
		for user := 1; user <= impl.UsrMax; user++ {
			g := guardedHouse(bench(7))
			for _, q := range []impl.MktReq{{Kind: impl.ReqIssue, Who: 3, Price: 5}, {Kind: impl.ReqOffer, Price: 5}, {Kind: impl.ReqDrop}, {Kind: impl.ReqFund}, {Kind: impl.ReqSettle}, {Kind: impl.ReqEnter}} {
				q.User, q.N, q.Ticket = user, 3, ticket
				newHouse(t, "MktDo", func() impl.MktHouse { done, _ := impl.MktDo(g.house(), q); return done }, g)
			}
		}
	}
}

// A market that was turned may be turned again, twice and apart, and what it was ahead of that stays.
func TestMemoryOfMarketsTurnedTwice(t *testing.T) {
	r := &row{33}
	m := impl.MktNew([]int{10, 300, 200, 100, 50})
	for range 300 {
		before := cloned(m)
		q := r.request(m)
		one, _ := impl.MktDo(m, q)
		want := cloned(one)
		two, _ := impl.MktTick(one)
		three, _ := impl.MktDo(one, r.request(one))
		for _, other := range []impl.MktHouse{two, three} {
			spoil(other.Log)
			spoil(other.Deals)
			apart(t, "behind a market", other.Purses, other.Nums, other.Said)
		}
		sameHouse(t, "a market that was turned", one, want)
		sameHouse(t, "the one ahead of it", m, before)
		m = one
	}
}

func TestMemoryOfHeads(t *testing.T) {
	r := &row{34}
	for n := range impl.TreMax + 3 {
		for _, list := range [][]impl.EntEntry{r.log(n), r.entries(n)} {
			g := guarded(list)
			first, there := impl.HedOf(g.list())
			g.untouched(t, "HedOf")
			for size := -1; size <= n+1; size++ {
				newMemory(t, "HedProof", func() []int { return impl.HedProof(g.list(), size) }, g)
				impl.HedAt(g.list(), size)
				g.untouched(t, "HedAt")
			}
			if again, ok := impl.HedOf(g.list()); again != first || ok != there {
				t.Fatalf("HedOf of %v is %v and %v, then %v and %v", list, first, there, again, ok)
			}
		}
	}
}

func TestMemoryOfHeadsThatFollow(t *testing.T) {
	r := &row{35}
	for n := 1; n <= impl.TreMax; n++ {
		list := r.log(n)
		all, _ := impl.HedOf(list)
		for m := range n + 1 {
			old, _ := impl.HedAt(list, m)
			for _, proof := range [][]int{impl.HedProof(list, m), r.leaves(r.below(8)), noMixed()} {
				g := guarded(proof)
				want := impl.HedFollows(old, all, slices.Clone(proof))
				for _, pair := range [][2]impl.HedHead{{all, old}, {old, old}, {{Size: -1}, all}, {{Size: m, Log: 1, Own: 1}, all}} {
					impl.HedFollows(pair[0], pair[1], g.list())
				}
				if got := impl.HedFollows(old, all, g.list()); got != want {
					t.Fatalf("HedFollows(%v, %v, %v) hangs on what is behind the proof", old, all, proof)
				}
				g.untouched(t, "HedFollows")
			}
		}
	}
}

// gatesGuard is gates in the middle of more of them, each with a guarded list.
type gatesGuard struct {
	whole, before []impl.GatGate
	done          []*guard[int]
	from, to      int
}

func guardedGates(gates []impl.GatGate) *gatesGuard {
	g := &gatesGuard{from: 2, to: 2 + len(gates)}
	odd := impl.GatGate{Head: junk[impl.HedHead](0), Done: []int{-77}}
	for _, gate := range slices.Concat([]impl.GatGate{odd, odd}, gates, []impl.GatGate{odd, odd, odd}) {
		done := guarded(gate.Done)
		g.done = append(g.done, done)
		g.whole = append(g.whole, impl.GatGate{Head: gate.Head, Done: done.list()})
	}
	g.before = slices.Clone(g.whole)
	return g
}

func (g *gatesGuard) gates() []impl.GatGate {
	return g.whole[g.from:g.to]
}

func (g *gatesGuard) untouched(t *testing.T, what string) {
	t.Helper()
	for i, done := range g.done {
		done.untouched(t, what)
		sameGate(t, what, g.whole[i], g.before[i])
	}
}

// anyGates are gates, of which some are ok, and how tickets stand under the heads of those that are.
func anyGates(r *row) ([]impl.GatGate, []impl.OwnRow) {
	rows := r.rows(impl.TikMax)
	var gates []impl.GatGate
	for range 5 {
		head := impl.HedHead{Size: r.below(3), Log: 5, Own: impl.OwnRoot(rows)}
		gates = append(gates, impl.GatGate{Head: head, Done: r.done()}, impl.GatGate{Head: head, Done: r.leaves(r.below(4))}, impl.GatGate{Head: head})
	}
	return append(gates, impl.GatNew(), impl.GatGate{}, impl.GatGate{Head: impl.HedHead{Size: -1}, Done: []int{1, 2}}), rows
}

func TestMemoryOfGates(t *testing.T) {
	r := &row{36}
	for range 30 {
		gates, rows := anyGates(r)
		all := guardedGates(gates)
		for i := range all.gates() {
			for _, h := range []impl.HedHead{gates[i].Head, {Size: 3, Log: 1, Own: 1}, {Size: 0, Log: 9}, {Size: -1}} {
				for _, proof := range [][]int{nil, r.leaves(r.below(4))} {
					beside := guarded(proof)
					newMemory(t, "GatSync", func() []int { g, _ := impl.GatSync(all.gates()[i], h, beside.list()); return g.Done }, all, beside)
				}
			}
			for ticket := -1; ticket <= impl.TikMax; ticket++ {
				row := rows[max(0, min(ticket, impl.TikMax-1))]
				for _, proof := range [][]int{impl.OwnProof(rows, ticket), r.leaves(3)} {
					beside := guarded(proof)
					newMemory(t, "GatShow", func() []int {
						g, _ := impl.GatShow(all.gates()[i], ticket, row.Who, row, beside.list())
						return g.Done
					}, all, beside)
				}
			}
			impl.GatOk(all.gates()[i])
			all.untouched(t, "GatOk")
		}
		for n := range gates {
			some := guardedGates(gates[:n])
			newMemory(t, "GatThrough", func() []int { return impl.GatThrough(some.gates()) }, some)
			impl.GatTimes(some.gates(), r.below(impl.TikMax))
			some.untouched(t, "GatTimes")
		}
	}
	spoil(impl.GatNew().Done)
	sameGate(t, "GatNew, written over", impl.GatNew(), impl.GatGate{Head: sevenHeads()[0]})
}

func TestMemoryOfWatching(t *testing.T) {
	r := &row{37}
	for n := range impl.WatMax + 2 {
		for range 10 {
			log := r.log(r.below(impl.TreMax + 2))
			list := r.kept(n)
			for _, heads := range [][]impl.HedHead{list, append(slices.Clone(list), impl.HedHead{Size: 1}, impl.HedHead{Size: 0})} {
				g, other, entries := guarded(heads), guarded(r.kept(r.below(14))), guarded(log)
				for _, h := range []impl.HedHead{{Size: r.below(41)}, {Size: 0, Log: 9}, {Size: impl.TreMax}, {Size: 41}} {
					newMemory(t, "WatSee", func() []impl.HedHead { kept, _, _ := impl.WatSee(g.list(), h); return kept }, g)
				}
				newMemory(t, "WatMeet", func() []impl.HedHead { a, b, _ := impl.WatMeet(g.list(), other.list()); return []impl.HedHead{a, b} }, g, other)
				impl.WatOk(g.list())
				impl.WatAll(g.list(), entries.list())
				g.untouched(t, "WatOk and WatAll")
				entries.untouched(t, "WatAll")
			}
		}
	}
}

// bagGuard is messages in the middle of more of them, each with a guarded proof.
type bagGuard struct {
	whole, before []impl.WldMsg
	proofs        []*guard[int]
	from, to      int
}

func guardedBag(bag []impl.WldMsg) *bagGuard {
	g := &bagGuard{from: 2, to: 2 + len(bag)}
	odd := junk[impl.WldMsg](0)
	for _, msg := range slices.Concat([]impl.WldMsg{odd, odd}, bag, []impl.WldMsg{odd, odd, odd}) {
		proof := guarded(msg.Proof)
		g.proofs = append(g.proofs, proof)
		g.whole = append(g.whole, impl.WldMsg{Gate: msg.Gate, Head: msg.Head, Proof: proof.list()})
	}
	g.before = slices.Clone(g.whole)
	return g
}

func (g *bagGuard) untouched(t *testing.T, what string) {
	t.Helper()
	for _, proof := range g.proofs {
		proof.untouched(t, what)
	}
	if !equalBags(g.whole, g.before) {
		t.Fatalf("%s: messages are now %v, they were %v", what, g.whole, g.before)
	}
}

// worldGuard is a world each list of which is a guarded one.
type worldGuard struct {
	first  *guard[int]
	market *houseGuard
	lines  *guard[impl.WldLine]
	gates  *gatesGuard
	bag    *bagGuard
}

func guardedWorld(w impl.WldWorld) *worldGuard {
	return &worldGuard{guarded(w.First), guardedHouse(w.Market), guarded(w.Lines), guardedGates(w.Gates), guardedBag(w.Bag)}
}

func (g *worldGuard) world() impl.WldWorld {
	return impl.WldWorld{First: g.first.list(), Market: g.market.house(), Lines: g.lines.list(), Gates: g.gates.gates(), Bag: g.bag.whole[g.bag.from:g.bag.to]}
}

func (g *worldGuard) untouched(t *testing.T, what string) {
	t.Helper()
	for _, part := range []untouched{g.first, g.market, g.lines, g.gates, g.bag} {
		part.untouched(t, what)
	}
}

// spoilWorld writes all over a world, and asks that no two of its lists share anything.
func spoilWorld(t *testing.T, what string, w impl.WldWorld) {
	t.Helper()
	lists := [][]int{w.First, w.Market.Purses, w.Market.Nums, w.Market.Said}
	for _, g := range w.Gates {
		lists = append(lists, g.Done)
	}
	for _, msg := range w.Bag {
		lists = append(lists, msg.Proof)
	}
	apart(t, what, lists...)
	spoil(w.Market.Log)
	spoil(w.Market.Deals)
	spoil(w.Lines)
	spoil(w.Gates)
	spoil(w.Bag)
}

// newWorld is newMemory of a world: each of its lists is written over.
func newWorld(t *testing.T, what string, call func() impl.WldWorld, given ...untouched) {
	t.Helper()
	first := call()
	for _, g := range given {
		g.untouched(t, what)
	}
	want := clonedWorld(first)
	second := call()
	spoilWorld(t, what, first)
	for _, g := range given {
		g.untouched(t, what+", its answer written over")
	}
	sameWorld(t, what+", the second answer", second, want)
	sameWorld(t, what+", once more", call(), want)
}

func TestMemoryOfWorlds(t *testing.T) {
	r := &row{38}
	worlds := []impl.WldWorld{town(), {}, impl.WldNew([]int{0, 100, 100, 100, 90})}
	for _, c := range goodTowns() {
		worlds = append(worlds, c.town())
	}
	for i, c := range wrongTowns() {
		if i%20 == 0 {
			worlds = append(worlds, c.town())
		}
	}
	for range 60 {
		worlds = append(worlds, r.world())
	}
	for _, w := range worlds {
		g := guardedWorld(w)
		for _, e := range append(someEvents(), impl.EvEvent{}, at(impl.EvTwice, 0), at(impl.EvHear, 3), at(impl.EvTell, 1), show(0, 1, 3)) {
			newWorld(t, "WldStep", func() impl.WldWorld { after, _ := impl.WldStep(g.world(), e); return after }, g)
		}
		for _, n := range []int{0, 1, len(someEvents())} {
			events := guarded(someEvents()[:n])
			newWorld(t, "WldRun", func() impl.WldWorld { return impl.WldRun(g.world(), events.list()) }, g, events)
		}
		newHouse(t, "WldFold", func() impl.MktHouse { m, _ := impl.WldFold(g.first.list(), g.lines.list()); return m }, g)
		newWorld(t, "WldNew", func() impl.WldWorld { return impl.WldNew(g.first.list()) }, g)
		impl.WldOk(g.world())
		impl.WldMoney(g.world())
		g.untouched(t, "WldOk and WldMoney")
	}
	long := guarded(make([]impl.EvEvent, impl.EvMaxRun+1))
	newWorld(t, "WldRun, too long", func() impl.WldWorld { return impl.WldRun(town(), long.list()) }, long)
}

// From WldNew on nothing that happens turns a world that was there before, though each is made out of the one ahead of it; what is on its way twice is two.
func TestMemoryOfWorldsBehindEachOther(t *testing.T) {
	r := &row{39}
	for range 8 {
		var all, copies []impl.WldWorld
		steps(r, []int{0, 500, 400, 300, 200}, 60, func(s step) {
			all, copies = append(all, s.after), append(copies, clonedWorld(s.after))
			twice, _ := impl.WldStep(s.after, at(impl.EvTwice, 0))
			spoilWorld(t, "twice", twice)
		})
		for i := range all {
			sameWorld(t, "a world behind which others came", all[i], copies[i])
		}
		for i := range all {
			spoilWorld(t, "one of many", all[i])
			for j := i + 1; j < len(all); j++ {
				sameWorld(t, "another one of many", all[j], copies[j])
			}
		}
	}
}

func TestMemoryOfLines(t *testing.T) {
	r := &row{40}
	worlds := []impl.WldWorld{town(), {}, impl.WldNew([]int{0, 100, 100, 100, 90})}
	for range 60 {
		worlds = append(worlds, r.world())
	}
	for _, w := range worlds {
		g := guardedWorld(w)
		newMemory(t, "DskBoard", func() []string { return impl.DskBoard(g.world()) }, g)
	}
	purses := []int{0, 100, 100, 100, 90}
	for _, lines := range [][]string{nil, {"no"}, {"tick"}, exampleLines(), wrongTexts(), r.told(purses, 20), r.told(purses, impl.DskMaxLines), make([]string, impl.DskMaxLines+1)} {
		for _, first := range [][]int{purses, {5, 5, 5, 5, 5}, {0, 1}, nil, {impl.MonMax, 1, 0, 0, 0}} {
			given, said := guarded(first), guarded(lines)
			newMemory(t, "DskRun", func() []string { return impl.DskRun(given.list(), said.list()) }, given, said)
		}
	}
}
