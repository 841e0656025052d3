package tests

import (
	"slices"
	"testing"

	"loop.example/stileway/impl"
)

// What the market is held against: the document's table, written down once more as conditions in a row, and markets and requests that look like chance.

// cloned is a market that shares nothing with another one.
func cloned(m impl.MktHouse) impl.MktHouse {
	m.Log, m.Purses, m.Deals = slices.Clone(m.Log), slices.Clone(m.Purses), slices.Clone(m.Deals)
	m.Nums, m.Said = slices.Clone(m.Nums), slices.Clone(m.Said)
	return m
}

func equalHouses(a impl.MktHouse, b impl.MktHouse) bool {
	return slices.Equal(a.Log, b.Log) && slices.Equal(a.Purses, b.Purses) && slices.Equal(a.Deals, b.Deals) && a.Clock == b.Clock && slices.Equal(a.Nums, b.Nums) && slices.Equal(a.Said, b.Said)
}

func sameHouse(t *testing.T, what string, got impl.MktHouse, want impl.MktHouse) {
	t.Helper()
	if !equalHouses(got, want) {
		t.Fatalf("%s:\ngot  %+v\nwant %+v", what, got, want)
	}
}

// slowDeals is the deals of a market by their tickets.
func slowDeals(m impl.MktHouse) map[int]impl.MktDeal {
	deals := map[int]impl.MktDeal{}
	for _, d := range m.Deals {
		deals[d.Ticket] = d
	}
	return deals
}

// setDeals puts deals into a market, by tickets, rising.
func setDeals(m *impl.MktHouse, deals map[int]impl.MktDeal) {
	m.Deals = nil
	for ticket := range impl.TikMax {
		if d, there := deals[ticket]; there {
			m.Deals = append(m.Deals, d)
		}
	}
}

// slowHeld is all prices that are held in a market that is ok.
func slowHeld(m impl.MktHouse) int {
	sum := 0
	for _, d := range m.Deals {
		if d.Buyer > 0 {
			sum += d.Price
		}
	}
	return sum
}

// slowReqOk is ReqOk, by the least and the greatest number of each part.
func slowReqOk(r impl.MktReq) bool {
	bounds, ok := map[int][4]int{1: {1, 5, 1, 50}, 2: {0, 0, 1, 999}, 3: {}, 4: {}, 5: {}, 6: {}}[r.Kind]
	return ok && r.User >= 1 && r.User <= 5 && r.N >= 1 && r.N <= 99999 && r.Ticket >= 0 && r.Ticket <= 7 &&
		bounds[0] <= r.Who && r.Who <= bounds[1] && bounds[2] <= r.Price && r.Price <= bounds[3]
}

// check is a condition of the document's table, and what is answered if it holds and none ahead of it does.
type check struct {
	answer int
	holds  bool
}

// slowChecks is the conditions of a request's kind, in the table's order.
func slowChecks(m impl.MktHouse, r impl.MktReq) []check {
	rows, _ := slowFold(m.Log)
	row, full := rows[r.Ticket], len(m.Log) == 40
	deal, there := slowDeals(m)[r.Ticket]
	held, has := deal.Buyer > 0, row.Who == r.User
	switch r.Kind {
	case impl.ReqIssue:
		return []check{{impl.AnsMayNot, r.User != 1 || r.Who == 1}, {impl.AnsNot, row.Who > 0}, {impl.AnsFull, full}, {impl.AnsMoney, m.Purses[r.Who-1] < r.Price}}
	case impl.ReqOffer:
		return []check{{impl.AnsMayNot, !has}, {impl.AnsNot, there || row.Used}, {impl.AnsCap, 5*r.Price > 6*row.Face}}
	case impl.ReqDrop:
		return []check{{impl.AnsMayNot, !has}, {impl.AnsNot, !there || held}}
	case impl.ReqFund:
		return []check{{impl.AnsNot, !there || held}, {impl.AnsMayNot, deal.Seller == r.User}, {impl.AnsMoney, m.Purses[r.User-1] < deal.Price}}
	case impl.ReqSettle:
		return []check{{impl.AnsNot, !held}, {impl.AnsMayNot, deal.Seller != r.User}, {impl.AnsFull, full}}
	}
	return []check{{impl.AnsMayNot, !has}, {impl.AnsNot, row.Used || there}, {impl.AnsFull, full}}
}

// slowTurn turns a market by a request that is done.
func slowTurn(m *impl.MktHouse, r impl.MktReq) {
	deals := slowDeals(*m)
	deal := deals[r.Ticket]
	delete(deals, r.Ticket)
	switch r.Kind {
	case impl.ReqIssue:
		m.Purses[r.Who-1] -= r.Price
		m.Purses[0] += r.Price
		m.Log = append(m.Log, impl.EntEntry{Kind: 1, Ticket: r.Ticket, Who: r.Who, Price: r.Price})
	case impl.ReqOffer:
		deals[r.Ticket] = impl.MktDeal{Ticket: r.Ticket, Seller: r.User, Price: r.Price}
	case impl.ReqFund:
		m.Purses[r.User-1] -= deal.Price
		deals[r.Ticket] = impl.MktDeal{Ticket: r.Ticket, Seller: deal.Seller, Price: deal.Price, Buyer: r.User, Due: m.Clock + 5}
	case impl.ReqSettle:
		m.Purses[r.User-1] += deal.Price
		m.Log = append(m.Log, impl.EntEntry{Kind: 2, Ticket: r.Ticket, Who: deal.Buyer, Price: deal.Price})
	case impl.ReqEnter:
		m.Log = append(m.Log, impl.EntEntry{Kind: 3, Ticket: r.Ticket, Who: r.User})
	}
	setDeals(m, deals)
}

// slowDo is MktDo of a market and a request that are ok.
func slowDo(m impl.MktHouse, r impl.MktReq) (impl.MktHouse, int) {
	m = cloned(m)
	if last := m.Nums[r.User-1]; r.N <= last {
		return m, map[bool]int{true: m.Said[r.User-1], false: impl.AnsOld}[r.N == last]
	}
	answer := impl.AnsDone
	for _, c := range slices.Backward(slowChecks(m, r)) {
		if c.holds {
			answer = c.answer
		}
	}
	if answer == impl.AnsDone {
		slowTurn(&m, r)
	}
	m.Nums[r.User-1], m.Said[r.User-1] = r.N, answer
	return m, answer
}

// slowTick is MktTick of a market that is ok, and whose clock can go on.
func slowTick(m impl.MktHouse) impl.MktHouse {
	m = cloned(m)
	deals := slowDeals(m)
	for ticket, d := range deals {
		if d.Buyer > 0 && d.Due == m.Clock {
			m.Purses[d.Buyer-1] += d.Price
			deals[ticket] = impl.MktDeal{Ticket: ticket, Seller: d.Seller, Price: d.Price}
		}
	}
	setDeals(&m, deals)
	m.Clock++
	return m
}

// market is a market that is ok: with few or many entries, a clock at its edges or between, and purses that are together much or little.
func (r *row) market() impl.MktHouse {
	sizes := []int{0, 1, 2, 5, 10, 20, 30, impl.TreMax - 1, impl.TreMax, impl.TreMax}
	clocks := []int{0, 0, 1, 7, 5000, impl.MktMaxT - 6, impl.MktMaxT - 5, impl.MktMaxT - 1, impl.MktMaxT}
	size := sizes[r.below(len(sizes))]
	m := impl.MktHouse{Log: r.log(size), Clock: clocks[r.below(len(clocks))]}
	if size > 0 && r.below(4) == 0 {
		// However many entries there are: most tickets can still be issued.
		m.Log = backAndForth(size)
	}
	m.Deals = r.deals(m)
	for range impl.UsrMax {
		m.Purses = append(m.Purses, r.below(70))
		n, said := []int{0, 1, 2, 50, impl.MktMaxN - 1, impl.MktMaxN}[r.below(6)], 1+r.below(impl.AnsFull)
		if n == 0 {
			said = 0
		}
		m.Nums, m.Said = append(m.Nums, n), append(m.Said, said)
	}
	if r.below(3) == 0 {
		m.Purses[r.below(impl.UsrMax)] += impl.MonMax - impl.MonSum(m.Purses) - slowHeld(m)
	}
	return m
}

// deals is deals about some of the tickets that may be offered, some of them held, until now or later.
func (r *row) deals(m impl.MktHouse) []impl.MktDeal {
	var deals []impl.MktDeal
	rows, _ := slowFold(m.Log)
	for ticket, row := range rows {
		if row.Who == 0 || row.Used || r.below(3) == 0 {
			continue
		}
		d := impl.MktDeal{Ticket: ticket, Seller: row.Who, Price: 1 + r.below(6*row.Face/5)}
		if r.below(4) == 0 {
			d.Price = 6 * row.Face / 5
		}
		if r.below(2) == 0 {
			d.Buyer, d.Due = 1+(row.Who+r.below(4))%5, m.Clock+r.below(6)
		}
		deals = append(deals, d)
	}
	return deals
}

// request is a request that is ok; it is often by who may ask for it, and its number is mostly a new one.
func (r *row) request(m impl.MktHouse) impl.MktReq {
	q := impl.MktReq{User: 1 + r.below(impl.UsrMax), Kind: 1 + r.below(6), Ticket: r.below(impl.TikMax)}
	if len(m.Deals) > 0 && r.below(3) == 0 {
		q.Ticket = m.Deals[r.below(len(m.Deals))].Ticket
	}
	rows, _ := slowFold(m.Log)
	row := rows[q.Ticket]
	if r.below(2) == 0 && q.Kind != impl.ReqFund {
		q.User = max(1, row.Who)
	}
	switch q.Kind {
	case impl.ReqIssue:
		if r.below(3) > 0 {
			q.User = impl.MktOffice
		}
		q.Who, q.Price = 1+r.below(impl.UsrMax), 1+r.below(impl.FaceMax)
	case impl.ReqOffer:
		highest := 6 * row.Face / 5
		q.Price = []int{1, max(1, highest), highest + 1, 1 + r.below(70), 999}[r.below(5)]
	}
	last := m.Nums[q.User-1]
	q.N = []int{last + 1, last + 1, last + 1, last + 2 + r.below(100), last, last - 1, 1}[r.below(7)]
	q.N = min(max(q.N, 1), impl.MktMaxN)
	return q
}

// everyMarket calls f with markets that are ok, one that has just begun ahead of all.
func everyMarket(seed uint64, f func(r *row, m impl.MktHouse)) {
	r := &row{seed}
	f(r, impl.MktHouse{Purses: make([]int, 5), Nums: make([]int, 5), Said: make([]int, 5)})
	for range 2000 {
		f(r, r.market())
	}
}

// deed is a request, the market ahead of it and behind it, and what was answered.
type deed struct {
	before, after impl.MktHouse
	req           impl.MktReq
	answer        int
}

// done says whether the request was done just now, and not answered once more.
func (d deed) done() bool {
	return d.answer == impl.AnsDone && d.req.N > d.before.Nums[d.req.User-1]
}

// everyDeed calls f with requests upon markets of all kinds, and one behind the other from a beginning on; all of it is the program's.
func everyDeed(seed uint64, f func(d deed)) {
	do := func(m impl.MktHouse, q impl.MktReq) impl.MktHouse {
		after, answer := impl.MktDo(m, q)
		f(deed{m, after, q, answer})
		return after
	}
	everyMarket(seed, func(r *row, m impl.MktHouse) {
		for range 12 {
			do(m, r.request(m))
		}
	})
	r := &row{seed + 1000}
	for range 12 {
		m := impl.MktNew([]int{r.below(50), 300, 50 + r.below(300), r.below(300), r.below(60)})
		for range 300 {
			m = do(m, r.request(m))
			if r.below(8) == 0 {
				m, _ = impl.MktTick(m)
			}
		}
	}
}
