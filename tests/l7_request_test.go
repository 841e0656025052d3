package tests

import (
	"slices"
	"testing"

	"loop.example/stileway/impl"
)

// everyRequest calls f with requests in and around the bounds of each part, and far off.
func everyRequest(f func(q impl.MktReq)) {
	for kind := -1; kind <= 8; kind++ {
		for _, user := range []int{-1, 0, 1, 3, 5, 6} {
			for _, n := range []int{-1, 0, 1, 2, impl.MktMaxN - 1, impl.MktMaxN, impl.MktMaxN + 1} {
				for _, ticket := range []int{-1, 0, 3, 7, 8} {
					for _, who := range []int{-1, 0, 1, 5, 6} {
						for _, price := range []int{-1, 0, 1, 50, 51, 60, 999, 1000} {
							f(impl.MktReq{User: user, N: n, Kind: kind, Ticket: ticket, Who: who, Price: price})
						}
					}
				}
			}
		}
	}
	for _, n := range far() {
		for _, q := range plainRequests() {
			for part := range 6 {
				other := q
				*[]*int{&other.User, &other.N, &other.Kind, &other.Ticket, &other.Who, &other.Price}[part] = n
				f(other)
			}
		}
	}
}

// plainRequests are one request of each kind that is ok.
func plainRequests() []impl.MktReq {
	return []impl.MktReq{
		{User: 1, N: 1, Kind: impl.ReqIssue, Ticket: 0, Who: 2, Price: 40},
		{User: 2, N: 1, Kind: impl.ReqOffer, Ticket: 0, Price: 48},
		{User: 2, N: 2, Kind: impl.ReqDrop, Ticket: 0},
		{User: 3, N: 1, Kind: impl.ReqFund, Ticket: 0},
		{User: 2, N: 3, Kind: impl.ReqSettle, Ticket: 0},
		{User: 3, N: 2, Kind: impl.ReqEnter, Ticket: 0},
	}
}

// Promise 56.
func TestReqOk(t *testing.T) {
	good := 0
	everyRequest(func(q impl.MktReq) {
		if got := impl.ReqOk(q); got != slowReqOk(q) {
			t.Fatalf("ReqOk(%+v) is %v", q, got)
		} else if got {
			good++
		}
	})
	if good < 300 {
		t.Fatalf("only %d requests are ok", good)
	}
}

// Promise 56, of requests with more or less than their kind has.
func TestReqOkEdges(t *testing.T) {
	for _, q := range plainRequests() {
		issue, offer := q.Kind == impl.ReqIssue, q.Kind == impl.ReqOffer
		ask := func(what string, want bool, turn func(q *impl.MktReq)) {
			t.Helper()
			other := q
			turn(&other)
			if got := impl.ReqOk(other); got != want {
				t.Errorf("%s: ReqOk(%+v) is %v", what, other, got)
			}
		}
		ask("as it is", true, func(q *impl.MktReq) {})
		ask("user 0", false, func(q *impl.MktReq) { q.User = 0 })
		ask("user 1", true, func(q *impl.MktReq) { q.User = 1 })
		ask("the last user", true, func(q *impl.MktReq) { q.User = impl.UsrMax })
		ask("one more", false, func(q *impl.MktReq) { q.User = impl.UsrMax + 1 })
		ask("number 0", false, func(q *impl.MktReq) { q.N = 0 })
		ask("number 1", true, func(q *impl.MktReq) { q.N = 1 })
		ask("the last number", true, func(q *impl.MktReq) { q.N = impl.MktMaxN })
		ask("one more", false, func(q *impl.MktReq) { q.N = impl.MktMaxN + 1 })
		ask("kind 0", false, func(q *impl.MktReq) { q.Kind = 0 })
		ask("kind 7", false, func(q *impl.MktReq) { q.Kind = 7 })
		ask("the first ticket", true, func(q *impl.MktReq) { q.Ticket = 0 })
		ask("the last ticket", true, func(q *impl.MktReq) { q.Ticket = impl.TikMax - 1 })
		ask("no ticket", false, func(q *impl.MktReq) { q.Ticket = impl.TikMax })
		ask("a ticket below 0", false, func(q *impl.MktReq) { q.Ticket = -1 })
		ask("to nobody", !issue, func(q *impl.MktReq) { q.Who = 0 })
		ask("to user 1", issue, func(q *impl.MktReq) { q.Who = 1 })
		ask("to the last user", issue, func(q *impl.MktReq) { q.Who = impl.UsrMax })
		ask("to one more", false, func(q *impl.MktReq) { q.Who = impl.UsrMax + 1 })
		ask("for nothing", !issue && !offer, func(q *impl.MktReq) { q.Price = 0 })
		ask("for less", false, func(q *impl.MktReq) { q.Price = -1 })
		ask("for 1", issue || offer, func(q *impl.MktReq) { q.Price = 1 })
		ask("for FaceMax", issue || offer, func(q *impl.MktReq) { q.Price = impl.FaceMax })
		ask("for one more", offer, func(q *impl.MktReq) { q.Price = impl.FaceMax + 1 })
		ask("for 999", offer, func(q *impl.MktReq) { q.Price = 999 })
		ask("for 1000", false, func(q *impl.MktReq) { q.Price = 1000 })
	}
}

// A request that is not ok is nothing behind it.
func TestMktDoOfWrongRequests(t *testing.T) {
	m := shelf()
	everyRequest(func(q impl.MktReq) {
		if slowReqOk(q) {
			return
		}
		got, answer := impl.MktDo(m, q)
		if answer != 0 || !equalHouses(got, impl.MktHouse{}) {
			t.Fatalf("MktDo of %+v is %+v, %d", q, got, answer)
		}
	})
}

// bench is a market of which tickets 0 to 5 are about to be asked for: 0 is user 2's, 1 is offered by user 2 for 12, 2 is offered by user 2 and held for user 3, 3 was entered with by user 2, 4 is offered by user 4, 5 nobody has. Of its entries there are so many.
func bench(entries int) impl.MktHouse {
	log := []impl.EntEntry{}
	for ticket, who := range []int{2, 2, 2, 2, 4} {
		log = append(log, impl.EntEntry{Kind: impl.EntIssue, Ticket: ticket, Who: who, Price: 10})
	}
	log = append(log, impl.EntEntry{Kind: impl.EntEnter, Ticket: 3, Who: 2})
	for len(log) < entries-1 {
		log = append(log, impl.EntEntry{Kind: impl.EntPass, Ticket: 0, Who: 3, Price: 12}, impl.EntEntry{Kind: impl.EntPass, Ticket: 0, Who: 2, Price: 12})
	}
	if len(log) < entries {
		log = append(log, impl.EntEntry{Kind: impl.EntIssue, Ticket: 7, Who: 5, Price: 1})
	}
	return impl.MktHouse{
		Log:    log,
		Purses: []int{0, 3, 12, 11, 0},
		Deals: []impl.MktDeal{
			{Ticket: 1, Seller: 2, Price: 12},
			{Ticket: 2, Seller: 2, Price: 12, Buyer: 3, Due: 9},
			{Ticket: 4, Seller: 4, Price: 12},
		},
		Clock: 7,
		Nums:  make([]int, 5),
		Said:  make([]int, 5),
	}
}

// Each answer of the table, in its order: what stands further behind holds as well, where it can, and is not what is answered.
func TestMktDoAnswers(t *testing.T) {
	some, most, full := bench(6), bench(impl.TreMax-1), bench(impl.TreMax)
	for _, c := range []struct {
		what string
		m    impl.MktHouse
		req  impl.MktReq
		want int
	}{
		{"issue by another user", full, impl.MktReq{User: 2, Kind: impl.ReqIssue, Ticket: 0, Who: 5, Price: 50}, impl.AnsMayNot},
		{"issue by another user, of what can be", some, impl.MktReq{User: 2, Kind: impl.ReqIssue, Ticket: 5, Who: 3, Price: 12}, impl.AnsMayNot},
		{"issue to the office", full, impl.MktReq{User: 1, Kind: impl.ReqIssue, Ticket: 0, Who: 1, Price: 50}, impl.AnsMayNot},
		{"issue to the office, of what can be", some, impl.MktReq{User: 1, Kind: impl.ReqIssue, Ticket: 5, Who: 1, Price: 1}, impl.AnsMayNot},
		{"issue twice", full, impl.MktReq{User: 1, Kind: impl.ReqIssue, Ticket: 0, Who: 5, Price: 50}, impl.AnsNot},
		{"issue behind an enter", some, impl.MktReq{User: 1, Kind: impl.ReqIssue, Ticket: 3, Who: 3, Price: 1}, impl.AnsNot},
		{"issue with no room", full, impl.MktReq{User: 1, Kind: impl.ReqIssue, Ticket: 5, Who: 5, Price: 50}, impl.AnsFull},
		{"issue for one more than there is", most, impl.MktReq{User: 1, Kind: impl.ReqIssue, Ticket: 5, Who: 3, Price: 13}, impl.AnsMoney},
		{"issue to an empty purse", some, impl.MktReq{User: 1, Kind: impl.ReqIssue, Ticket: 5, Who: 5, Price: 1}, impl.AnsMoney},
		{"issue for all there is, as the last entry", most, impl.MktReq{User: 1, Kind: impl.ReqIssue, Ticket: 5, Who: 3, Price: 12}, impl.AnsDone},

		{"offer of somebody else's", full, impl.MktReq{User: 3, Kind: impl.ReqOffer, Ticket: 1, Price: 13}, impl.AnsMayNot},
		{"offer of what is held for one", full, impl.MktReq{User: 3, Kind: impl.ReqOffer, Ticket: 2, Price: 1}, impl.AnsMayNot},
		{"offer of what nobody has", some, impl.MktReq{User: 1, Kind: impl.ReqOffer, Ticket: 5, Price: 999}, impl.AnsMayNot},
		{"offer of somebody else's, entered with", some, impl.MktReq{User: 3, Kind: impl.ReqOffer, Ticket: 3, Price: 999}, impl.AnsMayNot},
		{"offer twice", some, impl.MktReq{User: 2, Kind: impl.ReqOffer, Ticket: 1, Price: 13}, impl.AnsNot},
		{"offer of what is held", some, impl.MktReq{User: 2, Kind: impl.ReqOffer, Ticket: 2, Price: 12}, impl.AnsNot},
		{"offer behind an enter", some, impl.MktReq{User: 2, Kind: impl.ReqOffer, Ticket: 3, Price: 13}, impl.AnsNot},
		{"offer one above the cap", some, impl.MktReq{User: 2, Kind: impl.ReqOffer, Ticket: 0, Price: 13}, impl.AnsCap},
		{"offer far above the cap", full, impl.MktReq{User: 2, Kind: impl.ReqOffer, Ticket: 0, Price: 999}, impl.AnsCap},
		{"offer at the cap", full, impl.MktReq{User: 2, Kind: impl.ReqOffer, Ticket: 0, Price: 12}, impl.AnsDone},
		{"offer for 1", some, impl.MktReq{User: 2, Kind: impl.ReqOffer, Ticket: 0, Price: 1}, impl.AnsDone},

		{"drop of somebody else's", some, impl.MktReq{User: 3, Kind: impl.ReqDrop, Ticket: 1}, impl.AnsMayNot},
		{"drop of somebody else's, not offered", some, impl.MktReq{User: 3, Kind: impl.ReqDrop, Ticket: 0}, impl.AnsMayNot},
		{"drop by who put the price down", some, impl.MktReq{User: 3, Kind: impl.ReqDrop, Ticket: 2}, impl.AnsMayNot},
		{"drop of what nobody has", some, impl.MktReq{User: 1, Kind: impl.ReqDrop, Ticket: 5}, impl.AnsMayNot},
		{"drop of what is not offered", some, impl.MktReq{User: 2, Kind: impl.ReqDrop, Ticket: 0}, impl.AnsNot},
		{"drop of what is held", some, impl.MktReq{User: 2, Kind: impl.ReqDrop, Ticket: 2}, impl.AnsNot},
		{"drop", full, impl.MktReq{User: 2, Kind: impl.ReqDrop, Ticket: 1}, impl.AnsDone},

		{"fund of what is not offered, by who has it", some, impl.MktReq{User: 2, Kind: impl.ReqFund, Ticket: 0}, impl.AnsNot},
		{"fund of what is not offered", some, impl.MktReq{User: 3, Kind: impl.ReqFund, Ticket: 0}, impl.AnsNot},
		{"fund of what nobody has", some, impl.MktReq{User: 3, Kind: impl.ReqFund, Ticket: 5}, impl.AnsNot},
		{"fund of what is held, by who offers it", some, impl.MktReq{User: 2, Kind: impl.ReqFund, Ticket: 2}, impl.AnsNot},
		{"fund twice", some, impl.MktReq{User: 3, Kind: impl.ReqFund, Ticket: 2}, impl.AnsNot},
		{"fund of what is held for another one", some, impl.MktReq{User: 5, Kind: impl.ReqFund, Ticket: 2}, impl.AnsNot},
		{"fund by who offers it", some, impl.MktReq{User: 4, Kind: impl.ReqFund, Ticket: 4}, impl.AnsMayNot},
		{"fund for one more than there is", some, impl.MktReq{User: 4, Kind: impl.ReqFund, Ticket: 1}, impl.AnsMoney},
		{"fund with an empty purse", full, impl.MktReq{User: 1, Kind: impl.ReqFund, Ticket: 1}, impl.AnsMoney},
		{"fund with all there is", full, impl.MktReq{User: 3, Kind: impl.ReqFund, Ticket: 1}, impl.AnsDone},

		{"settle of what is not offered", full, impl.MktReq{User: 2, Kind: impl.ReqSettle, Ticket: 0}, impl.AnsNot},
		{"settle of what nobody has", full, impl.MktReq{User: 3, Kind: impl.ReqSettle, Ticket: 5}, impl.AnsNot},
		{"settle of what is not held", full, impl.MktReq{User: 2, Kind: impl.ReqSettle, Ticket: 1}, impl.AnsNot},
		{"settle of what is not held, by another user", full, impl.MktReq{User: 3, Kind: impl.ReqSettle, Ticket: 1}, impl.AnsNot},
		{"settle by who put the price down", full, impl.MktReq{User: 3, Kind: impl.ReqSettle, Ticket: 2}, impl.AnsMayNot},
		{"settle by another user", full, impl.MktReq{User: 5, Kind: impl.ReqSettle, Ticket: 2}, impl.AnsMayNot},
		{"settle by the office", some, impl.MktReq{User: 1, Kind: impl.ReqSettle, Ticket: 2}, impl.AnsMayNot},
		{"settle with no room", full, impl.MktReq{User: 2, Kind: impl.ReqSettle, Ticket: 2}, impl.AnsFull},
		{"settle as the last entry", most, impl.MktReq{User: 2, Kind: impl.ReqSettle, Ticket: 2}, impl.AnsDone},

		{"enter with somebody else's", full, impl.MktReq{User: 3, Kind: impl.ReqEnter, Ticket: 1}, impl.AnsMayNot},
		{"enter by who put the price down", full, impl.MktReq{User: 3, Kind: impl.ReqEnter, Ticket: 2}, impl.AnsMayNot},
		{"enter with somebody else's, entered with", full, impl.MktReq{User: 3, Kind: impl.ReqEnter, Ticket: 3}, impl.AnsMayNot},
		{"enter with what nobody has", some, impl.MktReq{User: 1, Kind: impl.ReqEnter, Ticket: 5}, impl.AnsMayNot},
		{"enter twice", full, impl.MktReq{User: 2, Kind: impl.ReqEnter, Ticket: 3}, impl.AnsNot},
		{"enter with what is offered", full, impl.MktReq{User: 2, Kind: impl.ReqEnter, Ticket: 1}, impl.AnsNot},
		{"enter with what is held", some, impl.MktReq{User: 2, Kind: impl.ReqEnter, Ticket: 2}, impl.AnsNot},
		{"enter with no room", full, impl.MktReq{User: 2, Kind: impl.ReqEnter, Ticket: 0}, impl.AnsFull},
		{"enter as the last entry", most, impl.MktReq{User: 2, Kind: impl.ReqEnter, Ticket: 0}, impl.AnsDone},
	} {
		if !impl.MktOk(c.m) {
			t.Fatalf("%s: %+v is not ok", c.what, c.m)
		}
		c.req.N = 1
		got, answer := impl.MktDo(c.m, c.req)
		if answer != c.want {
			t.Errorf("%s: answered %d, not %d", c.what, answer, c.want)
			continue
		}
		want, _ := slowDo(c.m, c.req)
		sameHouse(t, c.what, got, want)
	}
}

// What each request that is done turns, written out.
func TestMktDoTurnsKnown(t *testing.T) {
	before := bench(6)
	for _, c := range []struct {
		what string
		req  impl.MktReq
		turn func(m *impl.MktHouse)
	}{
		{"issue", impl.MktReq{User: 1, N: 4, Kind: impl.ReqIssue, Ticket: 5, Who: 3, Price: 5}, func(m *impl.MktHouse) {
			m.Log = append(m.Log, impl.EntEntry{Kind: impl.EntIssue, Ticket: 5, Who: 3, Price: 5})
			m.Purses = []int{5, 3, 7, 11, 0}
		}},
		{"offer", impl.MktReq{User: 2, N: 4, Kind: impl.ReqOffer, Ticket: 0, Price: 7}, func(m *impl.MktHouse) {
			m.Deals = append([]impl.MktDeal{{Ticket: 0, Seller: 2, Price: 7}}, m.Deals...)
		}},
		{"drop", impl.MktReq{User: 2, N: 4, Kind: impl.ReqDrop, Ticket: 1}, func(m *impl.MktHouse) {
			m.Deals = m.Deals[1:]
		}},
		{"fund", impl.MktReq{User: 3, N: 4, Kind: impl.ReqFund, Ticket: 4}, func(m *impl.MktHouse) {
			m.Purses = []int{0, 3, 0, 11, 0}
			m.Deals[2] = impl.MktDeal{Ticket: 4, Seller: 4, Price: 12, Buyer: 3, Due: 12}
		}},
		{"settle", impl.MktReq{User: 2, N: 4, Kind: impl.ReqSettle, Ticket: 2}, func(m *impl.MktHouse) {
			m.Log = append(m.Log, impl.EntEntry{Kind: impl.EntPass, Ticket: 2, Who: 3, Price: 12})
			m.Purses = []int{0, 15, 12, 11, 0}
			m.Deals = []impl.MktDeal{m.Deals[0], m.Deals[2]}
		}},
		{"enter", impl.MktReq{User: 2, N: 4, Kind: impl.ReqEnter, Ticket: 0}, func(m *impl.MktHouse) {
			m.Log = append(m.Log, impl.EntEntry{Kind: impl.EntEnter, Ticket: 0, Who: 2})
		}},
	} {
		got, answer := impl.MktDo(before, c.req)
		if answer != impl.AnsDone {
			t.Fatalf("%s: answered %d", c.what, answer)
		}
		want := turned(before, c.turn)
		want.Nums[c.req.User-1], want.Said[c.req.User-1] = 4, impl.AnsDone
		sameHouse(t, c.what, got, want)
	}
	refused, answer := impl.MktDo(before, impl.MktReq{User: 5, N: 9, Kind: impl.ReqFund, Ticket: 1})
	want := turned(before, func(m *impl.MktHouse) { m.Nums[4], m.Said[4] = 9, impl.AnsMoney })
	sameHouse(t, "refused", refused, want)
	if answer != impl.AnsMoney {
		t.Fatalf("answered %d", answer)
	}
}

// A deal is put in its place among the others, wherever that is.
func TestMktDoOffersInOrder(t *testing.T) {
	r := &row{100}
	for range 50 {
		m := impl.MktNew(make([]int, 5))
		order := []int{0, 1, 2, 3, 4, 5, 6, 7}
		for ticket := range order {
			other := r.below(8)
			order[ticket], order[other] = order[other], order[ticket]
			m.Log = append(m.Log, impl.EntEntry{Kind: impl.EntIssue, Ticket: ticket, Who: 3, Price: 20})
		}
		for i, ticket := range order {
			var answer int
			m, answer = impl.MktDo(m, impl.MktReq{User: 3, N: i + 1, Kind: impl.ReqOffer, Ticket: ticket, Price: ticket + 1})
			var want []impl.MktDeal
			for _, offered := range slices.Sorted(slices.Values(order[:i+1])) {
				want = append(want, impl.MktDeal{Ticket: offered, Seller: 3, Price: offered + 1})
			}
			if answer != impl.AnsDone {
				t.Fatalf("offer of %d behind %v: %d", ticket, order[:i], answer)
			}
			sameList(t, "deals", m.Deals, want)
		}
	}
}

// All of MktDo, held against the table; and that each kind has each of its answers often.
func TestMktDoIsTheTable(t *testing.T) {
	seen := map[[2]int]int{}
	everyDeed(101, func(d deed) {
		want, answer := slowDo(d.before, d.req)
		if d.answer != answer {
			t.Fatalf("MktDo of %+v in %+v is answered %d, not %d", d.req, d.before, d.answer, answer)
		}
		sameHouse(t, "behind a request", d.after, want)
		if d.req.N > d.before.Nums[d.req.User-1] {
			seen[[2]int{d.req.Kind, answer}]++
		} else {
			seen[[2]int{0, answer}]++
		}
	})
	for kind, answers := range map[int][]int{
		0:              {1, 2, 3, 4, 5, 6, 7},
		impl.ReqIssue:  {1, 2, 3, 5, 6},
		impl.ReqOffer:  {1, 2, 3, 4},
		impl.ReqDrop:   {1, 2, 3},
		impl.ReqFund:   {1, 2, 3, 5},
		impl.ReqSettle: {1, 2, 3, 6},
		impl.ReqEnter:  {1, 2, 3, 6},
	} {
		for _, answer := range answers {
			if seen[[2]int{kind, answer}] < 10 {
				t.Errorf("kind %d was answered %d only %d times", kind, answer, seen[[2]int{kind, answer}])
			}
		}
	}
}

// Promise 6.
func TestMktMoneyStays(t *testing.T) {
	all := func(m impl.MktHouse) int { return impl.MonSum(m.Purses) + impl.MktHeld(m) }
	everyDeed(102, func(d deed) {
		if all(d.after) != all(d.before) {
			t.Fatalf("%+v is %+v behind %+v: %d is %d", d.before, d.after, d.req, all(d.before), all(d.after))
		}
		ticked, _ := impl.MktTick(d.after)
		if all(ticked) != all(d.after) {
			t.Fatalf("%+v is %+v behind a tick: %d is %d", d.after, ticked, all(d.after), all(ticked))
		}
	})
}

// Promise 7.
func TestMktDoTwiceIsOnce(t *testing.T) {
	everyDeed(103, func(d deed) {
		again, answer := impl.MktDo(d.after, d.req)
		if answer != d.answer {
			t.Fatalf("%+v is answered %d, and then %d", d.req, d.answer, answer)
		}
		sameHouse(t, "done twice", again, d.after)
		old := d.req.N < d.before.Nums[d.req.User-1]
		if old != (d.answer == impl.AnsOld) {
			t.Fatalf("%+v behind the number %d is answered %d", d.req, d.before.Nums[d.req.User-1], d.answer)
		}
		if old {
			sameHouse(t, "an old one", d.after, d.before)
		}
	})
}

// Promise 7, at the edges: the last number again, whatever it is that is asked, a lesser one, one more, and the last one that there is.
func TestMktDoNumbers(t *testing.T) {
	m := turned(bench(6), func(m *impl.MktHouse) { m.Nums, m.Said = []int{0, 5, 0, 0, 0}, []int{0, impl.AnsCap, 0, 0, 0} })
	drop := impl.MktReq{User: 2, Kind: impl.ReqDrop, Ticket: 1}
	for _, c := range []struct {
		n, want int
	}{{1, impl.AnsOld}, {4, impl.AnsOld}, {5, impl.AnsCap}, {6, impl.AnsDone}, {impl.MktMaxN, impl.AnsDone}} {
		drop.N = c.n
		got, answer := impl.MktDo(m, drop)
		if answer != c.want {
			t.Errorf("number %d: answered %d, not %d", c.n, answer, c.want)
		}
		if c.n <= 5 {
			sameHouse(t, "as it is", got, m)
		} else if len(got.Deals) != 2 || got.Nums[1] != c.n || got.Said[1] != impl.AnsDone {
			t.Errorf("number %d: %+v", c.n, got)
		}
	}
	last, _ := impl.MktDo(m, drop)
	for n, want := range map[int]int{1: impl.AnsOld, impl.MktMaxN - 1: impl.AnsOld, impl.MktMaxN: impl.AnsDone, impl.MktMaxN + 1: 0} {
		drop.N = n
		if _, answer := impl.MktDo(last, drop); answer != want {
			t.Errorf("number %d behind the last one: answered %d, not %d", n, answer, want)
		}
	}
	first, answer := impl.MktDo(m, impl.MktReq{User: 4, N: 1, Kind: impl.ReqDrop, Ticket: 4})
	if answer != impl.AnsDone || first.Nums[3] != 1 || first.Nums[1] != 5 {
		t.Errorf("the first number of another user: %d, %+v", answer, first)
	}
}

// Promise 8.
func TestMktBothMoveOrNeither(t *testing.T) {
	passed := 0
	everyDeed(104, func(d deed) {
		if len(d.after.Log) == len(d.before.Log) {
			return
		}
		e := d.after.Log[len(d.after.Log)-1]
		if (e.Kind == impl.EntPass) != (d.req.Kind == impl.ReqSettle) {
			t.Fatalf("%+v is there behind %+v", e, d.req)
		}
		if e.Kind != impl.EntPass {
			return
		}
		passed++
		deal, there := impl.MktDealOf(d.before, d.req.Ticket)
		if !there || deal.Buyer == 0 || e != (impl.EntEntry{Kind: impl.EntPass, Ticket: deal.Ticket, Who: deal.Buyer, Price: deal.Price}) {
			t.Fatalf("%+v is there behind the deal %+v", e, deal)
		}
		if _, there := impl.MktDealOf(d.after, deal.Ticket); there || impl.MktRows(d.after)[deal.Ticket].Who != deal.Buyer {
			t.Fatalf("the deal %+v is not gone, or its ticket not there, in %+v", deal, d.after)
		}
		if impl.MktHeld(d.after) != impl.MktHeld(d.before)-deal.Price {
			t.Fatalf("%d was held, behind %+v %d is", impl.MktHeld(d.before), deal, impl.MktHeld(d.after))
		}
		sameList(t, "purses", d.after.Purses, with(d.before.Purses, deal.Seller-1, d.before.Purses[deal.Seller-1]+deal.Price))
	})
	if passed < 100 {
		t.Fatalf("only %d tickets were passed on", passed)
	}
}

// Promises 45 and 46.
func TestMktDoLeavesItOk(t *testing.T) {
	everyDeed(105, func(d deed) {
		if !impl.MktOk(d.after) {
			t.Fatalf("%+v behind %+v is not ok", d.after, d.req)
		}
		grown := len(d.after.Log) - len(d.before.Log)
		if grown < 0 || grown > 1 || d.after.Clock != d.before.Clock {
			t.Fatalf("%+v is %+v behind %+v", d.before, d.after, d.req)
		}
		sameList(t, "entries that were there", d.after.Log[:len(d.before.Log)], d.before.Log)
		rows, last := impl.MktRows(d.after), -1
		for _, deal := range d.after.Deals {
			row := rows[deal.Ticket]
			if deal.Ticket <= last || row.Who != deal.Seller || row.Used || deal.Price < 1 || deal.Price > impl.EntCap(row.Face) || deal.Buyer == deal.Seller {
				t.Fatalf("%+v is offered, and stands as %+v", deal, row)
			}
			last = deal.Ticket
		}
	})
}

// Promise 47.
func TestMktDoRefusedTurnsNothing(t *testing.T) {
	refused := 0
	everyDeed(106, func(d deed) {
		if d.answer == impl.AnsDone {
			return
		}
		refused++
		sameList(t, "entries", d.after.Log, d.before.Log)
		sameList(t, "purses", d.after.Purses, d.before.Purses)
		sameList(t, "deals", d.after.Deals, d.before.Deals)
		for i := range d.after.Nums {
			if i != d.req.User-1 && (d.after.Nums[i] != d.before.Nums[i] || d.after.Said[i] != d.before.Said[i]) {
				t.Fatalf("behind %+v the numbers are %v, the answers %v", d.req, d.after.Nums, d.after.Said)
			}
		}
	})
	if refused < 1000 {
		t.Fatalf("only %d were refused", refused)
	}
}

// Promise 48.
func TestMktDoIsOfWhoMay(t *testing.T) {
	done := map[int]int{}
	everyDeed(107, func(d deed) {
		if !d.done() {
			return
		}
		done[d.req.Kind]++
		who := impl.MktRows(d.before)[d.req.Ticket].Who
		may := who == d.req.User
		switch d.req.Kind {
		case impl.ReqIssue:
			may = d.req.User == impl.MktOffice
		case impl.ReqFund:
			may = who != d.req.User && who != 0
		}
		if !may {
			t.Fatalf("%+v is done, and user %d has the ticket", d.req, who)
		}
	})
	for kind := 1; kind <= 6; kind++ {
		if done[kind] < 50 {
			t.Errorf("kind %d was done only %d times", kind, done[kind])
		}
	}
}

// Promise 49.
func TestMktDoTurnsNoOtherTicket(t *testing.T) {
	everyDeed(108, func(d deed) {
		before, after := impl.MktRows(d.before), impl.MktRows(d.after)
		for ticket := range impl.TikMax {
			was, wasThere := impl.MktDealOf(d.before, ticket)
			is, isThere := impl.MktDealOf(d.after, ticket)
			if ticket != d.req.Ticket && (before[ticket] != after[ticket] || was != is || wasThere != isThere) {
				t.Fatalf("%+v turns ticket %d: %+v is %+v", d.req, ticket, d.before, d.after)
			}
		}
	})
}

// Promise 54.
func TestMktDropBehindOffer(t *testing.T) {
	dropped := 0
	everyDeed(109, func(d deed) {
		if !d.done() || d.req.Kind != impl.ReqOffer || d.req.N == impl.MktMaxN {
			return
		}
		back, answer := impl.MktDo(d.after, impl.MktReq{User: d.req.User, N: d.req.N + 1, Kind: impl.ReqDrop, Ticket: d.req.Ticket})
		if answer != impl.AnsDone {
			t.Fatalf("drop behind %+v is answered %d", d.req, answer)
		}
		sameList(t, "entries", back.Log, d.before.Log)
		sameList(t, "purses", back.Purses, d.before.Purses)
		sameList(t, "deals", back.Deals, d.before.Deals)
		dropped++
	})
	if dropped < 50 {
		t.Fatalf("only %d were dropped", dropped)
	}
}

// Promise 55.
func TestMktFundHolds(t *testing.T) {
	funded := 0
	everyDeed(110, func(d deed) {
		if !d.done() || d.req.Kind != impl.ReqFund {
			return
		}
		funded++
		deal, _ := impl.MktDealOf(d.before, d.req.Ticket)
		sameList(t, "purses", d.after.Purses, with(d.before.Purses, d.req.User-1, d.before.Purses[d.req.User-1]-deal.Price))
		sameList(t, "rows", impl.MktRows(d.after), impl.MktRows(d.before))
		if impl.MktHeld(d.after) != impl.MktHeld(d.before)+deal.Price {
			t.Fatalf("%+v is held behind %+v", d.after, d.before)
		}
		deal.Buyer, deal.Due = d.req.User, d.before.Clock+impl.MktWait
		if got, _ := impl.MktDealOf(d.after, d.req.Ticket); got != deal {
			t.Fatalf("the deal is %+v, not %+v", got, deal)
		}
	})
	if funded < 50 {
		t.Fatalf("only %d were funded", funded)
	}
}

// Funded at the clock's end the price is held until what the clock never tells; the market is ok, and it can be settled.
func TestMktFundAtTheEnd(t *testing.T) {
	m := turned(bench(6), func(m *impl.MktHouse) { m.Clock, m.Deals[1].Due = impl.MktMaxT, impl.MktMaxT })
	held, answer := impl.MktDo(m, impl.MktReq{User: 3, N: 1, Kind: impl.ReqFund, Ticket: 1})
	deal, _ := impl.MktDealOf(held, 1)
	if answer != impl.AnsDone || !impl.MktOk(held) || deal.Due != impl.MktMaxT+impl.MktWait {
		t.Fatalf("%d, %+v", answer, held)
	}
	sold, answer := impl.MktDo(held, impl.MktReq{User: 2, N: 1, Kind: impl.ReqSettle, Ticket: 1})
	if answer != impl.AnsDone || sold.Purses[1] != 15 {
		t.Fatalf("%d, %+v", answer, sold)
	}
}

// All money that there may be can be in one hand, and go from there and back.
func TestMktAllMoney(t *testing.T) {
	m := turned(bench(6), func(m *impl.MktHouse) { m.Purses = []int{0, impl.MonMax - 24, 12, 0, 0} })
	m, answer := impl.MktDo(m, impl.MktReq{User: 2, N: 1, Kind: impl.ReqFund, Ticket: 4})
	if answer != impl.AnsDone || m.Purses[1] != impl.MonMax-36 {
		t.Fatalf("%d, %+v", answer, m)
	}
	m, _ = impl.MktDo(m, impl.MktReq{User: 3, N: 1, Kind: impl.ReqFund, Ticket: 1})
	for n, ticket := range []int{1, 2} {
		m, answer = impl.MktDo(m, impl.MktReq{User: 2, N: 2 + n, Kind: impl.ReqSettle, Ticket: ticket})
		if answer != impl.AnsDone {
			t.Fatalf("%d, %+v", answer, m)
		}
	}
	for range impl.MktWait + 1 {
		m, _ = impl.MktTick(m)
	}
	sameList(t, "purses", m.Purses, []int{0, impl.MonMax, 0, 0, 0})
	m, answer = impl.MktDo(m, impl.MktReq{User: 1, N: 1, Kind: impl.ReqIssue, Ticket: 5, Who: 2, Price: 50})
	if answer != impl.AnsDone || m.Purses[0] != 50 || !impl.MktOk(m) {
		t.Fatalf("%d, %+v", answer, m)
	}
}

// The document's example, as far as the market goes.
func TestMktExample(t *testing.T) {
	m := impl.MktNew([]int{0, 100, 100, 100, 90})
	do := func(want int, q impl.MktReq) {
		t.Helper()
		var answer int
		if m, answer = impl.MktDo(m, q); answer != want {
			t.Fatalf("%+v is answered %d, not %d", q, answer, want)
		}
	}
	do(impl.AnsDone, impl.MktReq{User: 1, N: 1, Kind: impl.ReqIssue, Ticket: 0, Who: 2, Price: 40})
	do(impl.AnsCap, impl.MktReq{User: 2, N: 1, Kind: impl.ReqOffer, Ticket: 0, Price: 50})
	do(impl.AnsDone, impl.MktReq{User: 2, N: 2, Kind: impl.ReqOffer, Ticket: 0, Price: 48})
	do(impl.AnsDone, impl.MktReq{User: 3, N: 1, Kind: impl.ReqFund, Ticket: 0})
	do(impl.AnsNot, impl.MktReq{User: 4, N: 1, Kind: impl.ReqFund, Ticket: 0})
	do(impl.AnsDone, impl.MktReq{User: 2, N: 3, Kind: impl.ReqSettle, Ticket: 0})
	do(impl.AnsDone, impl.MktReq{User: 3, N: 2, Kind: impl.ReqEnter, Ticket: 0})
	do(impl.AnsNot, impl.MktReq{User: 3, N: 3, Kind: impl.ReqOffer, Ticket: 0, Price: 10})
	do(impl.AnsDone, impl.MktReq{User: 1, N: 2, Kind: impl.ReqIssue, Ticket: 1, Who: 4, Price: 30})
	do(impl.AnsDone, impl.MktReq{User: 4, N: 2, Kind: impl.ReqOffer, Ticket: 1, Price: 36})
	do(impl.AnsDone, impl.MktReq{User: 5, N: 1, Kind: impl.ReqFund, Ticket: 1})
	for range 6 {
		m, _ = impl.MktTick(m)
	}
	do(impl.AnsOld, impl.MktReq{User: 4, N: 1, Kind: impl.ReqFund, Ticket: 0})
	do(impl.AnsDone, impl.MktReq{User: 4, N: 3, Kind: impl.ReqDrop, Ticket: 1})
	sameList(t, "purses", m.Purses, []int{70, 108, 52, 70, 90})
	sameList(t, "rows", impl.MktRows(m), append([]impl.OwnRow{{Who: 3, Face: 40, Used: true}, {Who: 4, Face: 30}}, nobody()[2:]...))
	sameList(t, "deals", m.Deals, nil)
}
