package tests

import (
	"slices"
	"testing"

	"loop.example/stileway/impl"
)

// What the world is held against: the document's table, written down once more upon plain lists and the slow market, and worlds and events that look like chance.

// clonedWorld is a world that shares nothing with another one.
func clonedWorld(w impl.WldWorld) impl.WldWorld {
	w.First, w.Market, w.Lines = slices.Clone(w.First), cloned(w.Market), slices.Clone(w.Lines)
	w.Gates, w.Bag = slices.Clone(w.Gates), slices.Clone(w.Bag)
	for i := range w.Gates {
		w.Gates[i].Done = slices.Clone(w.Gates[i].Done)
	}
	for i := range w.Bag {
		w.Bag[i].Proof = slices.Clone(w.Bag[i].Proof)
	}
	return w
}

func equalGates(a []impl.GatGate, b []impl.GatGate) bool {
	return slices.EqualFunc(a, b, func(one impl.GatGate, other impl.GatGate) bool {
		return one.Head == other.Head && slices.Equal(one.Done, other.Done)
	})
}

func equalBags(a []impl.WldMsg, b []impl.WldMsg) bool {
	return slices.EqualFunc(a, b, func(one impl.WldMsg, other impl.WldMsg) bool {
		return one.Gate == other.Gate && one.Head == other.Head && slices.Equal(one.Proof, other.Proof)
	})
}

func sameWorld(t *testing.T, what string, got impl.WldWorld, want impl.WldWorld) {
	t.Helper()
	sameList(t, what+", first purses", got.First, want.First)
	sameHouse(t, what+", market", got.Market, want.Market)
	sameList(t, what+", lines", got.Lines, want.Lines)
	if !equalGates(got.Gates, want.Gates) {
		t.Fatalf("%s, gates:\ngot  %+v\nwant %+v", what, got.Gates, want.Gates)
	}
	if !equalBags(got.Bag, want.Bag) {
		t.Fatalf("%s, messages:\ngot  %+v\nwant %+v", what, got.Bag, want.Bag)
	}
}

// slowWldOk is WldOk of a world whose market is ok, by the numbers of the document.
func slowWldOk(w impl.WldWorld) bool {
	ok := len(w.First) == 5 && len(w.Lines) <= 300 && len(w.Gates) == 2 && len(w.Bag) <= 6
	for _, n := range w.First {
		ok = ok && n >= 0 && n <= 100000
	}
	for _, line := range w.Lines {
		ok = ok && (line.Req == impl.MktReq{} || slowReqOk(line.Req))
	}
	for _, g := range w.Gates {
		ok = ok && slowGatOk(g)
	}
	for _, msg := range w.Bag {
		ok = ok && (msg.Gate == 0 || msg.Gate == 1) && slowHedOk(msg.Head) && len(msg.Proof) <= 40
		ok = ok && !slices.ContainsFunc(msg.Proof, func(p int) bool { return p < 0 || p > 65520 })
	}
	return ok
}

// slowWldFold is WldFold by the slow market; its clock never comes to its end by lines, as there are too few.
func slowWldFold(first []int, lines []impl.WldLine) (impl.MktHouse, bool) {
	sum := 0
	for _, n := range first {
		if n < 0 || n > 100000 {
			return impl.MktHouse{}, false
		}
		sum += n
	}
	if len(first) != 5 || sum > 100000 || len(lines) > 300 {
		return impl.MktHouse{}, false
	}
	m := impl.MktHouse{Purses: slices.Clone(first), Nums: make([]int, 5), Said: make([]int, 5)}
	for _, line := range lines {
		switch {
		case line.Req == impl.MktReq{}:
			m = slowTick(m)
		case slowReqOk(line.Req):
			m, _ = slowDo(m, line.Req)
		default:
			return impl.MktHouse{}, false
		}
	}
	return m, true
}

// slowGrowth is HedProof of entries from a size on.
func slowGrowth(log []impl.EntEntry, size int) []int {
	if size < 1 || size > len(log) {
		return nil
	}
	return slowGrown(slowLeaves(log), size)
}

// slowStep is WldStep of a world that is ok.
func slowStep(w impl.WldWorld, e impl.EvEvent) (impl.WldWorld, int) {
	w = clonedWorld(w)
	room, gate := len(w.Lines) < 300, e.At == 0 || e.At == 1
	switch {
	case e.Kind == 1 && room && slowReqOk(e.Req):
		m, answer := slowDo(w.Market, e.Req)
		w.Market, w.Lines = m, append(w.Lines, impl.WldLine{Req: e.Req})
		return w, answer
	case e.Kind == 2 && room && w.Market.Clock < 99999:
		w.Market, w.Lines = slowTick(w.Market), append(w.Lines, impl.WldLine{})
	case e.Kind == 3:
		if m, ok := slowWldFold(w.First, w.Lines); ok {
			w.Market = m
		}
		w.Bag = nil
	case e.Kind == 8 && gate:
		return slowShowThere(w, e)
	case e.Kind == 9 && gate:
		return slowTell(w, e.At), 0
	case e.Kind == 4 && gate && len(w.Bag) < 6:
		head, _ := slowHead(w.Market.Log)
		w.Bag = append(w.Bag, impl.WldMsg{Gate: e.At, Head: head, Proof: slowGrowth(w.Market.Log, w.Gates[e.At].Head.Size)})
	case e.At >= 0 && e.At < len(w.Bag):
		return slowPost(w, e), 0
	}
	return w, 0
}

// slowPost is what happens to a message that is there.
func slowPost(w impl.WldWorld, e impl.EvEvent) impl.WldWorld {
	msg := w.Bag[e.At]
	if e.Kind == 7 && len(w.Bag) < 6 {
		w.Bag = append(w.Bag, msg)
	}
	if e.Kind == 5 && slowFollows(w.Gates[msg.Gate].Head, msg.Head, msg.Proof) {
		w.Gates[msg.Gate].Head = msg.Head
	}
	if e.Kind == 5 || e.Kind == 6 {
		w.Bag = slices.Delete(w.Bag, e.At, e.At+1)
	}
	return w
}

// slowShowThere is what happens if somebody shows a ticket at a gate that is there.
func slowShowThere(w impl.WldWorld, e impl.EvEvent) (impl.WldWorld, int) {
	gate := w.Gates[e.At]
	if e.Ticket < 0 || e.Ticket > 7 || gate.Head.Size > len(w.Market.Log) {
		return w, 0
	}
	rows, _ := slowFold(w.Market.Log[:gate.Head.Size])
	next, ok := slowShow(gate, e.Ticket, e.Who, rows[e.Ticket], slowProof(leavesOf(rows), e.Ticket))
	w.Gates[e.At] = next
	return w, map[bool]int{true: impl.AnsDone, false: impl.AnsNot}[ok]
}

// slowTell is what happens if a gate that is there tells.
func slowTell(w impl.WldWorld, at int) impl.WldWorld {
	for ticket := range 8 {
		rows, _ := slowFold(w.Market.Log)
		row := rows[ticket]
		if !slices.Contains(w.Gates[at].Done, ticket) || row.Who < 1 || row.Used || w.Market.Nums[row.Who-1] == 99999 {
			continue
		}
		w, _ = slowStep(w, impl.EvEvent{Kind: 1, Req: impl.MktReq{User: row.Who, N: w.Market.Nums[row.Who-1] + 1, Kind: 6, Ticket: ticket}})
	}
	return w
}

// lines is n lines that may have been written down.
func (r *row) lines(n int) []impl.WldLine {
	lines := make([]impl.WldLine, n)
	m := impl.MktHouse{Nums: make([]int, 5)}
	for i := range lines {
		if r.below(4) > 0 {
			lines[i].Req = r.request(m)
			m.Nums[lines[i].Req.User-1] = lines[i].Req.N
		}
	}
	return lines
}

// anyHead is a head that is ok: of the first so many of a log, of one size with it, or anything.
func (r *row) anyHead(log []impl.EntEntry) impl.HedHead {
	head, _ := slowHead(log[:r.below(len(log)+1)])
	switch r.below(6) {
	case 0:
		head.Own = r.below(impl.MixMax)
	case 1:
		head.Size = r.below(impl.TreMax + 1)
	}
	return head
}

// world is a world that is ok, of any kind: what was written down need not be what the market is behind, and gates and messages need not be of its log.
func (r *row) world() impl.WldWorld {
	w := impl.WldWorld{First: r.purses(impl.UsrMax), Market: r.market()}
	w.Lines = r.lines([]int{0, 1, 5, 30, impl.LineMax - 2, impl.LineMax - 1, impl.LineMax}[r.below(7)])
	if r.below(2) == 0 {
		w.First = []int{r.below(9), 300, 200, 400, r.below(300)}
	}
	log := w.Market.Log
	for range impl.GateMax {
		w.Gates = append(w.Gates, impl.GatGate{Head: r.anyHead(log), Done: r.done()})
	}
	for range []int{0, 1, 3, impl.BagMax - 1, impl.BagMax}[r.below(5)] {
		msg := impl.WldMsg{Gate: r.below(impl.GateMax), Head: r.anyHead(log), Proof: r.leaves(r.below(4))}
		if size := w.Gates[msg.Gate].Head.Size; msg.Head.Size <= len(log) && r.below(4) > 0 {
			msg.Proof = slowGrowth(log[:msg.Head.Size], size)
		}
		w.Bag = append(w.Bag, msg)
	}
	return w
}

// wanted is a request that will be done, if one is found soon; seldom one that ends a ticket's way, so that there is much to be sold.
func (r *row) wanted(m impl.MktHouse) impl.MktReq {
	for range 20 {
		q := r.request(m)
		q.N = min(m.Nums[q.User-1]+1, impl.MktMaxN)
		if q.Kind == impl.ReqEnter && r.below(20) > 0 || q.Kind == impl.ReqDrop && r.below(20) > 0 {
			continue
		}
		if _, answer := slowDo(m, q); answer == impl.AnsDone {
			return q
		}
	}
	return r.request(m)
}

// event is what may happen in a world: mostly at a gate or of a message that is there, of a request that is mostly ok, and often by who has the ticket that is shown.
func (r *row) event(w impl.WldWorld) impl.EvEvent {
	kinds := []int{1, 1, 1, 1, 1, 1, 1, 1, 1, 1, 2, 4, 4, 4, 5, 5, 5, 6, 7, 7, 8, 8, 8, 8, 9, 9, 2, 5, 3, r.below(12) - 1}
	e := impl.EvEvent{Kind: kinds[r.below(len(kinds))], At: r.below(impl.GateMax)}
	if e.Kind == impl.EvTell && len(w.Market.Log) < 30 && r.below(8) > 0 {
		// Tickets that are told of are not sold on any more: there would never be many entries.
		e.Kind = impl.EvAsk
	}
	switch e.Kind {
	case impl.EvAsk:
		e.Req = r.request(w.Market)
		if r.below(8) > 0 {
			e.Req = r.wanted(w.Market)
		}
		if r.below(30) == 0 {
			e.Req.Ticket = impl.TikMax
		}
	case impl.EvHear, impl.EvLose, impl.EvTwice:
		e.At = r.below(len(w.Bag) + 1)
	case impl.EvShow:
		e.Ticket, e.Who = r.below(impl.TikMax), 1+r.below(impl.UsrMax)
		rows, ok := slowFold(w.Market.Log[:min(w.Gates[e.At].Head.Size, len(w.Market.Log))])
		if r.below(5) > 0 && ok {
			e.Who = rows[e.Ticket].Who
		}
	}
	if r.below(40) == 0 {
		e.At, e.Ticket, e.Who = r.below(9)-1, r.below(10)-1, r.below(8)-1
	}
	return e
}

// everyWorld calls f with worlds that are ok, of any kind, and those that have just begun.
func everyWorld(seed uint64, f func(r *row, w impl.WldWorld)) {
	r := &row{seed}
	for range 400 {
		f(r, impl.WldNew([]int{r.below(50), 300, 50 + r.below(300), r.below(300), r.below(60)}))
		f(r, r.world())
	}
}

// step is what happened in a world, the world ahead of it and behind it, and what was answered; all of it is the program's.
type step struct {
	before, after impl.WldWorld
	event         impl.EvEvent
	answer        int
}

// steps calls f with so many events one behind the other, from WldNew on.
func steps(r *row, first []int, n int, f func(s step)) {
	w := impl.WldNew(first)
	for range n {
		e := r.event(w)
		after, answer := impl.WldStep(w, e)
		f(step{w, after, e, answer})
		w = after
	}
}

// everyStep calls f with events from WldNew on: of worlds that stay small, and of such in which all there is room for is taken.
func everyStep(seed uint64, f func(r *row, s step)) {
	r := &row{seed}
	for range 20 {
		steps(r, []int{r.below(50), 300, 50 + r.below(300), r.below(300), r.below(60)}, 120, func(s step) { f(r, s) })
	}
	for range 3 {
		steps(r, []int{0, 2000, 2000, 2000, 2000}, 900, func(s step) { f(r, s) })
	}
}
