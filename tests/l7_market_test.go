package tests

import (
	"math"
	"slices"
	"testing"

	"loop.example/stileway/impl"
)

// shelf is a market with all there can be: a ticket that is offered, one that is held until the clock, one until the last tick, one that was entered with, one that is not offered, three that nobody has; it is at the edges of all bounds.
func shelf() impl.MktHouse {
	return impl.MktHouse{
		Log: []impl.EntEntry{
			{Kind: impl.EntIssue, Ticket: 0, Who: 2, Price: 40},
			{Kind: impl.EntIssue, Ticket: 1, Who: 3, Price: 50},
			{Kind: impl.EntIssue, Ticket: 3, Who: 4, Price: 1},
			{Kind: impl.EntIssue, Ticket: 5, Who: 5, Price: 10},
			{Kind: impl.EntIssue, Ticket: 7, Who: 2, Price: 9},
			{Kind: impl.EntEnter, Ticket: 5, Who: 5},
		},
		Purses: []int{0, 100, 200, 300, 400},
		Deals: []impl.MktDeal{
			{Ticket: 0, Seller: 2, Price: 48},
			{Ticket: 1, Seller: 3, Price: 60, Buyer: 1, Due: 20},
			{Ticket: 3, Seller: 4, Price: 1, Buyer: 5, Due: 25},
		},
		Clock: 20,
		Nums:  []int{0, 1, 7, impl.MktMaxN, 0},
		Said:  []int{0, impl.AnsDone, impl.AnsCap, impl.AnsFull, 0},
	}
}

// turned is a market with something of it turned.
func turned(m impl.MktHouse, turn func(m *impl.MktHouse)) impl.MktHouse {
	other := cloned(m)
	turn(&other)
	return other
}

// otherMarket is a market that is told by what of it was turned.
type otherMarket struct {
	what string
	turn func(m *impl.MktHouse)
}

// goodTurns are what turns the shelf into another market that is ok.
func goodTurns() []otherMarket {
	return []otherMarket{
		{"nothing is offered", func(m *impl.MktHouse) { m.Deals = nil }},
		{"nothing was asked", func(m *impl.MktHouse) { m.Nums, m.Said = make([]int, 5), make([]int, 5) }},
		{"the price is 1", func(m *impl.MktHouse) { m.Deals[0].Price = 1 }},
		{"held until the clock", func(m *impl.MktHouse) { m.Deals[0].Buyer, m.Deals[0].Due = 5, 20 }},
		{"held as long as can be", func(m *impl.MktHouse) { m.Deals[0].Buyer, m.Deals[0].Due = 1, 25 }},
		{"the clock at 0", func(m *impl.MktHouse) { m.Clock, m.Deals[1].Due, m.Deals[2].Due = 0, 0, 5 }},
		{"the clock at its end", func(m *impl.MktHouse) {
			m.Clock, m.Deals[1].Due, m.Deals[2].Due = impl.MktMaxT, impl.MktMaxT, impl.MktMaxT+impl.MktWait
		}},
		{"all purses are empty", func(m *impl.MktHouse) { m.Purses = make([]int, 5) }},
		{"all is together MonMax", func(m *impl.MktHouse) { m.Purses = []int{0, 0, impl.MonMax - 61, 0, 0} }},
		{"all is together MonMax, in all purses", func(m *impl.MktHouse) { m.Purses = []int{1, 2, 3, 4, impl.MonMax - 61 - 10} }},
		{"no price is held, and all is together MonMax", func(m *impl.MktHouse) { m.Deals, m.Purses = m.Deals[:1], []int{impl.MonMax, 0, 0, 0, 0} }},
		{"TreMax entries", func(m *impl.MktHouse) { m.Log, m.Deals = backAndForth(impl.TreMax), nil }},
		{"no entries", func(m *impl.MktHouse) { m.Log, m.Deals = nil, nil }},
		{"each ticket is offered", func(m *impl.MktHouse) {
			m.Log, m.Deals = nil, nil
			for ticket := range impl.TikMax {
				m.Log = append(m.Log, impl.EntEntry{Kind: 1, Ticket: ticket, Who: 2, Price: 5})
				m.Deals = append(m.Deals, impl.MktDeal{Ticket: ticket, Seller: 2, Price: 6})
			}
		}},
		{"the last number", func(m *impl.MktHouse) { m.Nums[0], m.Said[0] = impl.MktMaxN, impl.AnsFull }},
		{"the office sells", func(m *impl.MktHouse) {
			m.Log = append(m.Log, impl.EntEntry{Kind: impl.EntPass, Ticket: 7, Who: 1, Price: 10})
			m.Deals = append(m.Deals, impl.MktDeal{Ticket: 7, Seller: 1, Price: 10, Buyer: 2, Due: 22})
		}},
	}
}

// wrongDeals are what turns the shelf into a market whose deals are not ok.
func wrongDeals() []otherMarket {
	set := func(at int, d impl.MktDeal) func(m *impl.MktHouse) {
		return func(m *impl.MktHouse) { m.Deals[at] = d }
	}
	more := func(d impl.MktDeal) func(m *impl.MktHouse) {
		return func(m *impl.MktHouse) { m.Deals = append(m.Deals, d) }
	}
	list := []otherMarket{
		{"not rising", func(m *impl.MktHouse) { m.Deals[0], m.Deals[1] = m.Deals[1], m.Deals[0] }},
		{"not rising at the end", func(m *impl.MktHouse) { m.Deals[1], m.Deals[2] = m.Deals[2], m.Deals[1] }},
		{"a ticket twice", more(impl.MktDeal{Ticket: 3, Seller: 4, Price: 1})},
		{"a ticket twice, at the beginning", func(m *impl.MktHouse) { m.Deals = slices.Insert(m.Deals, 0, m.Deals[0]) }},
		{"no ticket", more(impl.MktDeal{Ticket: impl.TikMax, Seller: 2, Price: 1})},
		{"a ticket below 0", set(0, impl.MktDeal{Ticket: -1, Seller: 2, Price: 1})},
		{"a ticket that nobody has", more(impl.MktDeal{Ticket: 6, Seller: 2, Price: 1})},
		{"a ticket that nobody has, of nobody", more(impl.MktDeal{Ticket: 6, Seller: 0, Price: 1})},
		{"a ticket that nobody has, for nothing", more(impl.MktDeal{Ticket: 6})},
		{"entered with", more(impl.MktDeal{Ticket: 5, Seller: 5, Price: 10})},
		{"of somebody else", set(0, impl.MktDeal{Ticket: 0, Seller: 3, Price: 48})},
		{"of nobody", set(0, impl.MktDeal{Ticket: 0, Seller: 0, Price: 48})},
		{"for nothing", set(0, impl.MktDeal{Ticket: 0, Seller: 2, Price: 0})},
		{"for less than nothing", set(0, impl.MktDeal{Ticket: 0, Seller: 2, Price: -1})},
		{"above the cap", set(0, impl.MktDeal{Ticket: 0, Seller: 2, Price: 49})},
		{"above the cap, and held", set(1, impl.MktDeal{Ticket: 1, Seller: 3, Price: 61, Buyer: 1, Due: 20})},
		{"above a cap that is no more", set(2, impl.MktDeal{Ticket: 3, Seller: 4, Price: 2})},
		{"held by nobody", set(0, impl.MktDeal{Ticket: 0, Seller: 2, Price: 48, Due: 20})},
		{"held by nobody, at 1", set(0, impl.MktDeal{Ticket: 0, Seller: 2, Price: 48, Due: 1})},
		{"held by nobody, below 0", set(0, impl.MktDeal{Ticket: 0, Seller: 2, Price: 48, Due: -1})},
		{"held by who offers", set(0, impl.MktDeal{Ticket: 0, Seller: 2, Price: 48, Buyer: 2, Due: 20})},
		{"held by no user", set(0, impl.MktDeal{Ticket: 0, Seller: 2, Price: 48, Buyer: 6, Due: 20})},
		{"held by one below 0", set(0, impl.MktDeal{Ticket: 0, Seller: 2, Price: 48, Buyer: -1, Due: 20})},
		{"held until the clock was one less", set(0, impl.MktDeal{Ticket: 0, Seller: 2, Price: 48, Buyer: 3, Due: 19})},
		{"held too long", set(0, impl.MktDeal{Ticket: 0, Seller: 2, Price: 48, Buyer: 3, Due: 26})},
		{"held until 0", set(0, impl.MktDeal{Ticket: 0, Seller: 2, Price: 48, Buyer: 3})},
		{"the last one is wrong", set(2, impl.MktDeal{Ticket: 3, Seller: 4, Price: 1, Buyer: 5, Due: 26})},
		{"more than there are tickets", func(m *impl.MktHouse) { m.Deals = make([]impl.MktDeal, impl.TikMax+1) }},
	}
	for _, n := range far() {
		list = append(list,
			otherMarket{"a ticket far off", set(0, impl.MktDeal{Ticket: n, Seller: 2, Price: 48})},
			otherMarket{"a seller far off", set(0, impl.MktDeal{Ticket: 0, Seller: n, Price: 48})},
			otherMarket{"a price far off", set(0, impl.MktDeal{Ticket: 0, Seller: 2, Price: n})},
			otherMarket{"a price far off, and held", set(0, impl.MktDeal{Ticket: 0, Seller: 2, Price: n, Buyer: 3, Due: 20})},
			otherMarket{"a buyer far off", set(0, impl.MktDeal{Ticket: 0, Seller: 2, Price: 48, Buyer: n, Due: 20})},
			otherMarket{"held until far off", set(0, impl.MktDeal{Ticket: 0, Seller: 2, Price: 48, Buyer: 3, Due: n})})
	}
	return list
}

// wrongTurns are what turns the shelf into a market that is not ok, in each of its parts.
func wrongTurns() []otherMarket {
	list := []otherMarket{
		{"nothing", func(m *impl.MktHouse) { *m = impl.MktHouse{} }},
		{"an entry that may not follow", func(m *impl.MktHouse) { m.Log = append(m.Log, m.Log[0]) }},
		{"an entry that is not ok", func(m *impl.MktHouse) { m.Log = append(m.Log, impl.EntEntry{}) }},
		{"a first entry that may not be", func(m *impl.MktHouse) { m.Log[0].Kind = impl.EntPass }},
		{"more than TreMax entries", func(m *impl.MktHouse) { m.Log, m.Deals = backAndForth(impl.TreMax+1), nil }},
		{"all is together one more than MonMax", func(m *impl.MktHouse) { m.Purses = []int{0, 0, impl.MonMax - 60, 0, 0} }},
		{"all purses are together more than MonMax", func(m *impl.MktHouse) { m.Purses, m.Deals = []int{0, 1, impl.MonMax, 0, 0}, nil }},
		{"all purses are full", func(m *impl.MktHouse) { m.Purses, m.Deals = slices.Repeat([]int{impl.MonMax}, 5), nil }},
		{"a clock below 0", func(m *impl.MktHouse) { m.Clock, m.Deals = -1, nil }},
		{"a clock past its end", func(m *impl.MktHouse) { m.Clock, m.Deals = impl.MktMaxT+1, nil }},
		{"a clock below 0, and held", func(m *impl.MktHouse) { m.Clock, m.Deals[1].Due, m.Deals[2].Due = -1, 0, 4 }},
		{"a clock one ahead", func(m *impl.MktHouse) { m.Clock = 21 }},
		{"a clock one behind", func(m *impl.MktHouse) { m.Clock = 19 }},
		{"no numbers", func(m *impl.MktHouse) { m.Nums = nil }},
		{"no answers", func(m *impl.MktHouse) { m.Said = nil }},
		{"neither numbers nor answers", func(m *impl.MktHouse) { m.Nums, m.Said = nil, nil }},
		{"too few numbers", func(m *impl.MktHouse) { m.Nums = m.Nums[:4] }},
		{"too few answers", func(m *impl.MktHouse) { m.Said = m.Said[:4] }},
		{"too few of both", func(m *impl.MktHouse) { m.Nums, m.Said = m.Nums[:4], m.Said[:4] }},
		{"too many numbers", func(m *impl.MktHouse) { m.Nums = append(m.Nums, 0) }},
		{"too many answers", func(m *impl.MktHouse) { m.Said = append(m.Said, 0) }},
		{"too many of both", func(m *impl.MktHouse) { m.Nums, m.Said = append(m.Nums, 0), append(m.Said, 0) }},
	}
	for i := range impl.UsrMax {
		for _, c := range []struct {
			what      string
			num, said int
		}{
			{"a number below 0", -1, 1},
			{"a number past the end", impl.MktMaxN + 1, 1},
			{"an answer below 0", 1, -1},
			{"an answer that was too old", 1, impl.AnsOld},
			{"a number without an answer", 1, 0},
			{"an answer without a number", 0, 1},
			{"a number below 0, and no answer", -1, 0},
			{"a number far off", math.MinInt, 1},
			{"an answer far off", 1, math.MaxInt},
		} {
			list = append(list, otherMarket{c.what, func(m *impl.MktHouse) { m.Nums[i], m.Said[i] = c.num, c.said }})
		}
	}
	for _, purses := range wrongPurses() {
		list = append(list, otherMarket{"purses", func(m *impl.MktHouse) { m.Purses = purses }})
		list = append(list, otherMarket{"purses, nothing offered", func(m *impl.MktHouse) { m.Purses, m.Deals = purses, nil }})
	}
	for _, n := range far() {
		if n < 0 || n > impl.MktMaxT {
			list = append(list, otherMarket{"a clock far off", func(m *impl.MktHouse) { m.Clock, m.Deals = n, nil }})
		}
		list = append(list, otherMarket{"a clock far off, and held", func(m *impl.MktHouse) { m.Clock, m.Deals[1].Due, m.Deals[2].Due = n, n, n-1 }})
	}
	return slices.Concat(list, wrongDeals())
}

// backAndForth is n entries about ticket 0: to user 2, and from there to user 3, and back.
func backAndForth(n int) []impl.EntEntry {
	list := []impl.EntEntry{{Kind: impl.EntIssue, Ticket: 0, Who: 2, Price: 10}}
	for len(list) < n {
		list = append(list, impl.EntEntry{Kind: impl.EntPass, Ticket: 0, Who: 2 + len(list)%2, Price: 12})
	}
	return list
}

// Promise 44.
func TestMktNew(t *testing.T) {
	for _, purses := range [][]int{{0, 0, 0, 0, 0}, {0, 100, 100, 100, 90}, {impl.MonMax, 0, 0, 0, 0}, {0, 0, 0, 0, impl.MonMax}, {20000, 20000, 20000, 20000, 20000}, {1, 2, 3, 4, impl.MonMax - 10}} {
		m := impl.MktNew(purses)
		sameHouse(t, "new", m, impl.MktHouse{Purses: purses, Nums: make([]int, 5), Said: make([]int, 5)})
		if !impl.MktOk(m) {
			t.Fatalf("%+v is not ok", m)
		}
	}
	more := [][]int{{impl.MonMax, 1, 0, 0, 0}, {0, 0, 0, 1, impl.MonMax}, {20000, 20000, 20000, 20000, 20001}, slices.Repeat([]int{impl.MonMax}, 5)}
	for _, purses := range slices.Concat(more, wrongPurses()) {
		sameHouse(t, "of wrong purses", impl.MktNew(purses), impl.MktHouse{})
	}
}

func TestMktOk(t *testing.T) {
	if !impl.MktOk(shelf()) {
		t.Fatal("the shelf is ok")
	}
	for _, c := range goodTurns() {
		if m := turned(shelf(), c.turn); !impl.MktOk(m) {
			t.Errorf("%s: not ok: %+v", c.what, m)
		}
	}
	for _, c := range wrongTurns() {
		if m := turned(shelf(), c.turn); impl.MktOk(m) {
			t.Errorf("%s: ok: %+v", c.what, m)
		}
	}
	everyMarket(90, func(r *row, m impl.MktHouse) {
		if !impl.MktOk(m) {
			t.Fatalf("%+v is ok", m)
		}
	})
}

// A market that is not ok is nothing behind all that can be done with it.
func TestMktOfWrongMarkets(t *testing.T) {
	for _, c := range wrongTurns() {
		m := turned(shelf(), c.turn)
		ticked, ok := impl.MktTick(m)
		if ok {
			t.Errorf("%s: MktTick is true", c.what)
		}
		sameHouse(t, c.what+": MktTick", ticked, impl.MktHouse{})
		for _, q := range []impl.MktReq{
			{User: 1, N: 8, Kind: impl.ReqIssue, Ticket: 6, Who: 2, Price: 1},
			{User: 2, N: 1, Kind: impl.ReqOffer, Ticket: 7, Price: 1},
			{User: 3, N: 1, Kind: impl.ReqSettle, Ticket: 1},
			{User: 5, N: 1, Kind: impl.ReqFund, Ticket: 0},
			{},
		} {
			done, answer := impl.MktDo(m, q)
			if answer != 0 {
				t.Errorf("%s: MktDo of %+v is %d", c.what, q, answer)
			}
			sameHouse(t, c.what+": MktDo", done, impl.MktHouse{})
		}
	}
}

// Promise 45, of markets with one number turned: those that are ok have just the deals that may be.
func TestMktOkJustOfDealsThatMayBe(t *testing.T) {
	good, wrong := 0, 0
	everyMarket(91, func(r *row, m impl.MktHouse) {
		if len(m.Deals) == 0 {
			return
		}
		d := &m.Deals[r.below(len(m.Deals))]
		*[]*int{&d.Ticket, &d.Seller, &d.Price, &d.Buyer, &d.Due, &m.Clock}[r.below(6)] += r.below(7) - 3
		rows, _ := slowFold(m.Log)
		want := m.Clock >= 0 && m.Clock <= impl.MktMaxT && impl.MonSum(m.Purses)+slowHeld(m) <= impl.MonMax
		for i, d := range m.Deals {
			if i > 0 && m.Deals[i-1].Ticket >= d.Ticket || d.Ticket < 0 || d.Ticket > 7 {
				want = false
				break
			}
			row := rows[d.Ticket]
			held := d.Buyer >= 1 && d.Buyer <= 5 && d.Buyer != d.Seller && d.Due-m.Clock >= 0 && d.Due-m.Clock <= 5
			free := d.Buyer == 0 && d.Due == 0
			want = want && row.Who > 0 && row.Who == d.Seller && !row.Used && d.Price > 0 && 5*d.Price <= 6*row.Face && (held || free)
		}
		if got := impl.MktOk(m); got != want {
			t.Fatalf("MktOk(%+v) is %v", m, got)
		}
		if want {
			good++
		} else {
			wrong++
		}
	})
	if good < 200 || wrong < 200 {
		t.Fatalf("%d markets are ok, %d are not", good, wrong)
	}
}

// anyMarket is a market of any kind, its deals in no order, and about anything.
func (r *row) anyMarket() impl.MktHouse {
	m := impl.MktHouse{Log: r.slip(r.log(1 + r.below(8))), Clock: r.below(9) - 2}
	for range r.below(12) {
		m.Deals = append(m.Deals, impl.MktDeal{Ticket: r.below(12) - 2, Seller: r.below(7), Price: r.below(90) - 9, Buyer: max(0, r.below(13)-5) - r.below(2), Due: r.below(30) - 3})
	}
	return m
}

// Promise 53.
func TestMktRowsAndMktHeld(t *testing.T) {
	r := &row{92}
	seen := 0
	for range 2000 {
		m := []impl.MktHouse{r.market(), r.anyMarket()}[r.below(2)]
		want, _ := slowFold(m.Log)
		sameList(t, "rows", impl.MktRows(m), want)
		held := 0
		for _, d := range m.Deals {
			if d.Buyer != 0 {
				held += d.Price
			}
		}
		if got := impl.MktHeld(m); got != held {
			t.Fatalf("MktHeld(%+v): got %d, want %d", m, got, held)
		}
		if held > 0 {
			seen++
		}
	}
	if seen < 200 {
		t.Fatalf("only in %d markets something is held", seen)
	}
	if impl.MktHeld(shelf()) != 61 || impl.MktHeld(impl.MktHouse{}) != 0 {
		t.Fatal("what is held")
	}
	sameList(t, "of no entries", impl.MktRows(impl.MktHouse{}), nobody())
	sameList(t, "of entries that do not follow", impl.MktRows(impl.MktHouse{Log: []impl.EntEntry{{}}}), nil)
	sameList(t, "of too many entries", impl.MktRows(impl.MktHouse{Log: backAndForth(impl.TreMax + 1)}), nil)
}

// Promise 52.
func TestMktDealOf(t *testing.T) {
	r := &row{93}
	for range 1000 {
		m := []impl.MktHouse{r.market(), r.anyMarket()}[r.below(2)]
		for _, ticket := range append(far(), -3, -2, -1, 0, 1, 2, 3, 4, 5, 6, 7, 8, 9) {
			var want impl.MktDeal
			there := false
			for _, d := range slices.Backward(m.Deals) {
				if d.Ticket == ticket {
					want, there = d, true
				}
			}
			if got, ok := impl.MktDealOf(m, ticket); ok != there || got != want {
				t.Fatalf("MktDealOf(%+v, %d): got %+v, %v, want %+v, %v", m.Deals, ticket, got, ok, want, there)
			}
		}
	}
	twice := impl.MktHouse{Deals: []impl.MktDeal{{Ticket: 4, Price: 1}, {Ticket: 9, Price: 2}, {Ticket: 4, Price: 3}, {}}}
	for ticket, price := range map[int]int{4: 1, 9: 2, 0: 0} {
		if d, ok := impl.MktDealOf(twice, ticket); !ok || d.Price != price {
			t.Errorf("the first deal about %d is %+v, %v", ticket, d, ok)
		}
	}
}

// Promise 51.
func TestMktOffersAndMktFor(t *testing.T) {
	everyMarket(94, func(r *row, m impl.MktHouse) {
		var all, together []int
		for _, d := range m.Deals {
			all = append(all, d.Ticket)
		}
		together = append(together, impl.MktOffers(m)...)
		for who := 1; who <= impl.UsrMax; who++ {
			tickets := impl.MktFor(m, who)
			if !slices.IsSorted(tickets) {
				t.Fatalf("MktFor(%+v, %d) is %v", m, who, tickets)
			}
			together = append(together, tickets...)
		}
		slices.Sort(together)
		sameList(t, "together", together, all)
	})
	r := &row{95}
	for range 1000 {
		m := []impl.MktHouse{r.market(), r.anyMarket()}[r.below(2)]
		for who := -2; who <= 9; who++ {
			var want []int
			for _, d := range m.Deals {
				if d.Buyer == who {
					want = append(want, d.Ticket)
				}
			}
			if who == 0 {
				sameList(t, "offers", impl.MktOffers(m), want)
				want = nil
			}
			sameList(t, "for somebody", impl.MktFor(m, who), want)
		}
	}
}

func TestMktOffersAndMktForKnown(t *testing.T) {
	m := shelf()
	sameList(t, "offers", impl.MktOffers(m), []int{0})
	sameList(t, "for the office", impl.MktFor(m, 1), []int{1})
	sameList(t, "for user 5", impl.MktFor(m, 5), []int{3})
	for _, who := range append(far(), -1, 0, 2, 3, 4, 6) {
		sameList(t, "for another one", impl.MktFor(m, who), nil)
	}
	sameList(t, "of nothing", impl.MktOffers(impl.MktHouse{}), nil)
	sameList(t, "of nothing, for user 1", impl.MktFor(impl.MktHouse{}, 1), nil)
}

// Promise 50.
func TestMktTick(t *testing.T) {
	back, stayed := 0, 0
	everyMarket(96, func(r *row, m impl.MktHouse) {
		got, ok := impl.MktTick(m)
		if m.Clock == impl.MktMaxT {
			if ok {
				t.Fatalf("the clock went on from its end: %+v", got)
			}
			sameHouse(t, "at the end", got, m)
			return
		}
		if !ok || !impl.MktOk(got) {
			t.Fatalf("MktTick(%+v) is %+v, %v", m, got, ok)
		}
		sameHouse(t, "behind a tick", got, slowTick(m))
		for i, d := range m.Deals {
			ended := d.Buyer != 0 && d.Due == m.Clock
			if ended != (got.Deals[i] != d) || got.Deals[i].Buyer != 0 && got.Deals[i].Due < got.Clock {
				t.Fatalf("%+v is %+v behind the clock at %d", d, got.Deals[i], m.Clock)
			}
			if ended {
				back++
			} else if d.Buyer != 0 {
				stayed++
			}
		}
	})
	if back < 100 || stayed < 100 {
		t.Fatalf("%d prices went back, %d stayed", back, stayed)
	}
}

// A price that is held until the clock goes back at the next tick; one that is held a tick longer stays, and goes back at the one behind it.
func TestMktTickKnown(t *testing.T) {
	m := shelf()
	m.Deals[0].Buyer, m.Deals[0].Due = 3, 21
	first, ok := impl.MktTick(m)
	if !ok {
		t.Fatal("MktTick is false")
	}
	want := turned(m, func(m *impl.MktHouse) {
		m.Clock = 21
		m.Deals[1] = impl.MktDeal{Ticket: 1, Seller: 3, Price: 60}
		m.Purses[0] = 60
	})
	sameHouse(t, "the first tick", first, want)
	second, ok := impl.MktTick(first)
	if !ok {
		t.Fatal("MktTick is false")
	}
	want.Clock, want.Deals[0], want.Purses[2] = 22, impl.MktDeal{Ticket: 0, Seller: 2, Price: 48}, 248
	sameHouse(t, "the second tick", second, want)
}

// Two prices that go back to one purse at one tick are both there.
func TestMktTickOfSeveral(t *testing.T) {
	m := shelf()
	m.Deals[0].Buyer, m.Deals[0].Due = 5, 20
	m.Deals[2].Due = 20
	got, ok := impl.MktTick(m)
	if !ok || impl.MktHeld(got) != 0 {
		t.Fatalf("%+v, %v", got, ok)
	}
	sameList(t, "purses", got.Purses, []int{60, 100, 200, 300, 449})
	sameList(t, "deals", got.Deals, []impl.MktDeal{{Ticket: 0, Seller: 2, Price: 48}, {Ticket: 1, Seller: 3, Price: 60}, {Ticket: 3, Seller: 4, Price: 1}})
}

func TestMktTickAtTheEnd(t *testing.T) {
	m := shelf()
	m.Clock, m.Deals[1].Due, m.Deals[2].Due = impl.MktMaxT-1, impl.MktMaxT-1, impl.MktMaxT
	last, ok := impl.MktTick(m)
	if !ok || last.Clock != impl.MktMaxT || impl.MktHeld(last) != 1 || last.Purses[0] != 60 {
		t.Fatalf("%+v, %v", last, ok)
	}
	for range 3 {
		again, ok := impl.MktTick(last)
		if ok {
			t.Fatal("the clock went on from its end")
		}
		sameHouse(t, "at the end", again, last)
		last = again
	}
}

// Promise 9.
func TestMktWhatIsHeldEnds(t *testing.T) {
	ended := 0
	everyMarket(97, func(r *row, m impl.MktHouse) {
		m.Clock %= impl.MktMaxT - impl.MktWait
		for i := range m.Deals {
			if m.Deals[i].Buyer != 0 {
				m.Deals[i].Due = m.Clock + r.below(impl.MktWait+1)
			}
		}
		want := slices.Clone(m.Purses)
		for _, d := range m.Deals {
			if d.Buyer != 0 {
				want[d.Buyer-1] += d.Price
				ended++
			}
		}
		end, ok := m, true
		for range impl.MktWait + 1 {
			if end, ok = impl.MktTick(end); !ok {
				t.Fatalf("MktTick of what is behind %+v is false", m)
			}
		}
		sameList(t, "purses", end.Purses, want)
		if impl.MktHeld(end) != 0 || len(impl.MktOffers(end)) != len(m.Deals) || end.Clock != m.Clock+impl.MktWait+1 {
			t.Fatalf("%+v is %+v in the end", m, end)
		}
	})
	if ended < 200 {
		t.Fatalf("only %d prices were held", ended)
	}
}

// Promise 9, from a request on: the price is held at each of MktWait ticks, and not at the one behind.
func TestMktWhatIsFundedIsHeldUntilDue(t *testing.T) {
	m, answer := impl.MktDo(shelf(), impl.MktReq{User: 5, N: 1, Kind: impl.ReqFund, Ticket: 0})
	if answer != impl.AnsDone {
		t.Fatal(answer)
	}
	for range impl.MktWait {
		m, _ = impl.MktTick(m)
		if d, ok := impl.MktDealOf(m, 0); !ok || d != (impl.MktDeal{Ticket: 0, Seller: 2, Price: 48, Buyer: 5, Due: 25}) {
			t.Fatalf("at %d: %+v, %v", m.Clock, d, ok)
		}
	}
	sold, answer := impl.MktDo(m, impl.MktReq{User: 2, N: 2, Kind: impl.ReqSettle, Ticket: 0})
	if answer != impl.AnsDone || impl.MktRows(sold)[0].Who != 5 {
		t.Fatalf("at its last tick: %d", answer)
	}
	m, _ = impl.MktTick(m)
	if d, _ := impl.MktDealOf(m, 0); d != (impl.MktDeal{Ticket: 0, Seller: 2, Price: 48}) {
		t.Fatalf("at %d: %+v", m.Clock, d)
	}
	if _, answer := impl.MktDo(m, impl.MktReq{User: 2, N: 2, Kind: impl.ReqSettle, Ticket: 0}); answer != impl.AnsNot {
		t.Fatalf("behind its last tick: %d", answer)
	}
}
