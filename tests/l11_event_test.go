package tests

import (
	"slices"
	"testing"

	"loop.example/stileway/impl"
)

// happens asks what WldStep answers, and is the world behind it.
func happens(t *testing.T, what string, w impl.WldWorld, e impl.EvEvent) (impl.WldWorld, int) {
	t.Helper()
	got, answer := impl.WldStep(w, e)
	want, wantAnswer := slowStep(w, e)
	if answer != wantAnswer {
		t.Fatalf("%s: WldStep of %+v is %d, not %d, in %+v", what, e, answer, wantAnswer, w)
	}
	sameWorld(t, what, got, want)
	return got, answer
}

// answered is happens of what is known to be answered so.
func answered(t *testing.T, what string, w impl.WldWorld, e impl.EvEvent, want int) impl.WldWorld {
	t.Helper()
	got, answer := happens(t, what, w, e)
	if answer != want {
		t.Fatalf("%s: WldStep of %+v is %d", what, e, answer)
	}
	return got
}

// turnsNothing asks that a world stays as it is, and that nothing is told.
func turnsNothing(t *testing.T, what string, w impl.WldWorld, e impl.EvEvent) {
	t.Helper()
	sameWorld(t, what, answered(t, what, w, e, 0), w)
}

// does is answered of one event behind the other, none of which tells anything.
func does(t *testing.T, w impl.WldWorld, events ...impl.EvEvent) impl.WldWorld {
	t.Helper()
	for _, e := range events {
		w = answered(t, "happens", w, e, 0)
	}
	return w
}

func ask(user int, kind int, ticket int, w impl.WldWorld) impl.EvEvent {
	return impl.EvEvent{Kind: impl.EvAsk, Req: impl.MktReq{User: user, N: w.Market.Nums[user-1] + 1, Kind: kind, Ticket: ticket}}
}

func at(kind int, place int) impl.EvEvent {
	return impl.EvEvent{Kind: kind, At: place}
}

func show(gate int, ticket int, who int) impl.EvEvent {
	return impl.EvEvent{Kind: impl.EvShow, At: gate, Ticket: ticket, Who: who}
}

// issued is a world behind the issue of these tickets, each to a user, for 10.
func issued(t *testing.T, w impl.WldWorld, users ...int) impl.WldWorld {
	t.Helper()
	for ticket, who := range users {
		e := ask(impl.MktOffice, impl.ReqIssue, ticket, w)
		e.Req.Who, e.Req.Price = who, 10
		w = answered(t, "issue", w, e, impl.AnsDone)
	}
	return w
}

// sold is a world behind the sale of a ticket for 12.
func sold(t *testing.T, w impl.WldWorld, ticket int, seller int, buyer int) impl.WldWorld {
	t.Helper()
	offer := ask(seller, impl.ReqOffer, ticket, w)
	offer.Req.Price = 12
	w = answered(t, "offer", w, offer, impl.AnsDone)
	w = answered(t, "fund", w, ask(buyer, impl.ReqFund, ticket, w), impl.AnsDone)
	return answered(t, "settle", w, ask(seller, impl.ReqSettle, ticket, w), impl.AnsDone)
}

// heard is a world in which a gate has heard the newest head; nothing was on its way.
func heard(t *testing.T, w impl.WldWorld, gate int) impl.WldWorld {
	t.Helper()
	return does(t, w, at(impl.EvSend, gate), at(impl.EvHear, len(w.Bag)))
}

func fresh() impl.WldWorld {
	return impl.WldNew([]int{0, 200, 200, 200, 200})
}

// Each event of each kind is as the document's table has it, in worlds of any kind, and from WldNew on.
func TestWldStepIsTheTable(t *testing.T) {
	kinds := map[int]int{}
	everyWorld(160, func(r *row, w impl.WldWorld) {
		for range 12 {
			e := r.event(w)
			got, _ := happens(t, "any", w, e)
			if !impl.WldOk(got) {
				t.Fatalf("behind %+v: not ok: %+v", e, got)
			}
		}
	})
	everyStep(161, func(r *row, s step) {
		want, answer := slowStep(s.before, s.event)
		if s.answer != answer {
			t.Fatalf("WldStep of %+v is %d, not %d", s.event, s.answer, answer)
		}
		sameWorld(t, "from WldNew on", s.after, want)
		kinds[s.event.Kind]++
	})
	for kind := range 11 {
		if kinds[kind] < 5 {
			t.Fatalf("there were %v", kinds)
		}
	}
}

// The document's example, event by event; its lines are of the layer behind this one.
func TestWldStepExample(t *testing.T) {
	req := func(user int, n int, kind int, ticket int, who int, price int) impl.EvEvent {
		return impl.EvEvent{Kind: impl.EvAsk, Req: impl.MktReq{User: user, N: n, Kind: kind, Ticket: ticket, Who: who, Price: price}}
	}
	tick := impl.EvEvent{Kind: impl.EvTick}
	w := impl.WldNew([]int{0, 100, 100, 100, 90})
	for _, c := range []struct {
		e      impl.EvEvent
		answer int
	}{
		{req(1, 1, impl.ReqIssue, 0, 2, 40), impl.AnsDone}, {req(2, 1, impl.ReqOffer, 0, 0, 50), impl.AnsCap}, {req(2, 2, impl.ReqOffer, 0, 0, 48), impl.AnsDone},
		{req(3, 1, impl.ReqFund, 0, 0, 0), impl.AnsDone}, {req(4, 1, impl.ReqFund, 0, 0, 0), impl.AnsNot}, {req(2, 3, impl.ReqSettle, 0, 0, 0), impl.AnsDone},
		{at(impl.EvSend, 0), 0}, {at(impl.EvTwice, 0), 0}, {at(impl.EvHear, 0), 0},
		{show(0, 0, 2), impl.AnsNot}, {show(0, 0, 3), impl.AnsDone}, {show(0, 0, 3), impl.AnsNot}, {show(1, 0, 3), impl.AnsNot},
		{at(impl.EvLose, 0), 0}, {at(impl.EvSend, 1), 0}, {at(impl.EvHear, 0), 0}, {show(1, 0, 3), impl.AnsDone},
		{at(impl.EvTell, 0), 0}, {at(impl.EvTell, 1), 0}, {req(3, 3, impl.ReqOffer, 0, 0, 10), impl.AnsNot},
		{req(1, 2, impl.ReqIssue, 1, 4, 30), impl.AnsDone}, {req(4, 2, impl.ReqOffer, 1, 0, 36), impl.AnsDone}, {req(5, 1, impl.ReqFund, 1, 0, 0), impl.AnsDone},
		{tick, 0}, {tick, 0}, {tick, 0}, {tick, 0}, {tick, 0}, {tick, 0}, {impl.EvEvent{Kind: impl.EvFall}, 0},
		{req(4, 1, impl.ReqFund, 0, 0, 0), impl.AnsOld}, {req(4, 3, impl.ReqDrop, 1, 0, 0), impl.AnsDone},
	} {
		w = answered(t, "the example", w, c.e, c.answer)
	}
	sameList(t, "tickets", impl.MktRows(w.Market)[:3], []impl.OwnRow{{Who: 3, Face: 40, Used: true}, {Who: 4, Face: 30}, {}})
	sameList(t, "purses", w.Market.Purses, []int{70, 108, 52, 70, 90})
	sameList(t, "numbers", w.Market.Nums, []int{2, 3, 3, 3, 1})
	head := impl.HedHead{Size: 2, Log: 10122, Own: 31213}
	for _, g := range w.Gates {
		sameGate(t, "gates", g, impl.GatGate{Head: head, Done: []int{0}})
	}
	if len(w.Market.Deals) != 0 || len(w.Bag) != 0 || len(w.Lines) != 19 || w.Market.Clock != 6 {
		t.Fatalf("%+v", w)
	}
}

// Promise 75.
func TestWldStepThatTurnsNothing(t *testing.T) {
	everyWorld(162, func(r *row, w impl.WldWorld) {
		if r.below(6) > 0 {
			return
		}
		for _, kind := range append(far(), -2, -1, 0, 10, 11) {
			for _, e := range someEvents() {
				e.Kind = kind
				turnsNothing(t, "no kind", w, e)
			}
		}
		for _, n := range append(far(), -2, -1, impl.GateMax, impl.GateMax+1) {
			for _, kind := range []int{impl.EvSend, impl.EvShow, impl.EvTell} {
				turnsNothing(t, "no gate", w, impl.EvEvent{Kind: kind, At: n, Ticket: r.below(impl.TikMax), Who: 1 + r.below(impl.UsrMax)})
			}
		}
		for _, n := range append(far(), -2, -1, len(w.Bag), len(w.Bag)+1, impl.BagMax) {
			for _, kind := range []int{impl.EvHear, impl.EvLose, impl.EvTwice} {
				turnsNothing(t, "no message", w, at(kind, n))
			}
		}
		for _, n := range append(far(), -1, impl.TikMax) {
			turnsNothing(t, "no ticket", w, show(r.below(impl.GateMax), n, 1+r.below(impl.UsrMax)))
		}
	})
}

// What an event has besides what its kind asks for does not count.
func TestWldStepOfMoreThanIsAsked(t *testing.T) {
	for _, w := range []impl.WldWorld{town(), fresh()} {
		for _, e := range someEvents() {
			want, wantAnswer := happens(t, "plain", w, e)
			for _, n := range append(far(), -1, 1) {
				more := e
				if e.Kind != impl.EvAsk {
					more.Req = impl.MktReq{User: n, N: n, Kind: n}
				}
				if e.Kind <= impl.EvFall {
					more.At = n
				}
				if e.Kind != impl.EvShow {
					more.Ticket, more.Who = n, n
				}
				got, answer := impl.WldStep(w, more)
				if answer != wantAnswer {
					t.Fatalf("WldStep of %+v is %d, without more %d", more, answer, wantAnswer)
				}
				sameWorld(t, "with more than is asked", got, want)
			}
		}
	}
}

// Promise 69.
func TestWldAsk(t *testing.T) {
	answers := map[int]int{}
	everyWorld(163, func(r *row, w impl.WldWorld) {
		for range 6 {
			e := impl.EvEvent{Kind: impl.EvAsk, Req: r.request(w.Market)}
			got, answer := happens(t, "ask", w, e)
			want := clonedWorld(w)
			if len(w.Lines) == impl.LineMax {
				turnsNothing(t, "no room for a line", w, e)
				answers[0]++
				continue
			}
			market, wantAnswer := impl.MktDo(w.Market, e.Req)
			want.Market, want.Lines = market, append(want.Lines, impl.WldLine{Req: e.Req})
			sameWorld(t, "ask", got, want)
			if answer != wantAnswer {
				t.Fatalf("EvAsk of %+v is %d, MktDo is %d", e.Req, answer, wantAnswer)
			}
			answers[answer]++
		}
		for _, line := range wrongLines()[:30] {
			turnsNothing(t, "a request that is not ok", w, impl.EvEvent{Kind: impl.EvAsk, Req: line.Req})
		}
		turnsNothing(t, "nothing is no request", w, impl.EvEvent{Kind: impl.EvAsk})
	})
	for answer := range impl.AnsOld + 1 {
		if answers[answer] < 5 {
			t.Fatalf("there were %v", answers)
		}
	}
}

// What is refused, asked once more, or too old is written down as well; with no room it is not answered, and not done later either.
func TestWldAskIsWrittenDown(t *testing.T) {
	w := fresh()
	first := ask(impl.MktOffice, impl.ReqIssue, 3, w)
	first.Req.Who, first.Req.Price = 2, 10
	refused := ask(4, impl.ReqEnter, 3, w)
	refused.Req.N = 7
	old := refused
	old.Req.N = 6
	w = answered(t, "first", w, first, impl.AnsDone)
	w = answered(t, "once more", w, first, impl.AnsDone)
	w = answered(t, "refused", w, refused, impl.AnsMayNot)
	w = answered(t, "too old", w, old, impl.AnsOld)
	w = does(t, w, impl.EvEvent{Kind: impl.EvTick})
	sameList(t, "lines", w.Lines, []impl.WldLine{{Req: first.Req}, {Req: first.Req}, {Req: refused.Req}, {Req: old.Req}, {}})

	for len(w.Lines) < impl.LineMax-1 {
		w = does(t, w, impl.EvEvent{Kind: impl.EvTick})
	}
	enter := ask(2, impl.ReqEnter, 3, w)
	last := answered(t, "the last line", w, enter, impl.AnsDone)
	if len(last.Lines) != impl.LineMax || last.Lines[impl.LineMax-1].Req != enter.Req {
		t.Fatalf("%d lines, the last one %+v", len(last.Lines), last.Lines[len(last.Lines)-1])
	}
	w = does(t, w, impl.EvEvent{Kind: impl.EvTick})
	for _, e := range []impl.EvEvent{enter, first, refused, old, {Kind: impl.EvTick}} {
		turnsNothing(t, "no room to write it down", w, e)
	}
	w = does(t, w, impl.EvEvent{Kind: impl.EvFall})
	if impl.MktRows(w.Market)[3].Used || len(w.Lines) != impl.LineMax {
		t.Fatalf("what was not written down is done behind a fall: %+v", w.Market)
	}
}

func TestWldTick(t *testing.T) {
	ticked, stayed := 0, 0
	everyWorld(164, func(r *row, w impl.WldWorld) {
		e, want := impl.EvEvent{Kind: impl.EvTick}, clonedWorld(w)
		market, ok := impl.MktTick(w.Market)
		if !ok || len(w.Lines) == impl.LineMax {
			turnsNothing(t, "no tick", w, e)
			stayed++
			return
		}
		want.Market, want.Lines = market, append(want.Lines, impl.WldLine{})
		sameWorld(t, "tick", answered(t, "tick", w, e, 0), want)
		ticked++
	})
	if ticked < 100 || stayed < 50 {
		t.Fatalf("%d ticks, %d that were none", ticked, stayed)
	}
	end := town()
	end.Market.Deals, end.Market.Clock = nil, impl.MktMaxT-1
	end = does(t, end, impl.EvEvent{Kind: impl.EvTick})
	if end.Market.Clock != impl.MktMaxT || len(end.Lines) != 6 {
		t.Fatalf("%+v", end)
	}
	turnsNothing(t, "the clock at its end", end, impl.EvEvent{Kind: impl.EvTick})
}

// Promise 70.
func TestWldSend(t *testing.T) {
	sent, proofs, full := 0, 0, 0
	everyWorld(165, func(r *row, w impl.WldWorld) {
		for gate := range impl.GateMax {
			if len(w.Bag) == impl.BagMax {
				turnsNothing(t, "no room for a message", w, at(impl.EvSend, gate))
				full++
				continue
			}
			head, ok := impl.HedOf(w.Market.Log)
			if !ok {
				t.Fatalf("there is no head of %v", w.Market.Log)
			}
			want, proof := clonedWorld(w), impl.HedProof(w.Market.Log, w.Gates[gate].Head.Size)
			want.Bag = append(want.Bag, impl.WldMsg{Gate: gate, Head: head, Proof: proof})
			sameWorld(t, "send", answered(t, "send", w, at(impl.EvSend, gate), 0), want)
			sent++
			if len(proof) > 0 {
				proofs++
			}
		}
	})
	if sent < 500 || proofs < 100 || full < 50 {
		t.Fatalf("%d were sent, %d of them with a proof, for %d there was no room", sent, proofs, full)
	}
}

// Messages go behind all others, until there are BagMax; each has the head that was the newest as it was sent.
func TestWldSendInOrder(t *testing.T) {
	w := fresh()
	for n := range impl.BagMax {
		w = does(t, w, at(impl.EvSend, n%2))
		e := ask(impl.MktOffice, impl.ReqIssue, n, w)
		e.Req.Who, e.Req.Price = 2, 10
		w = answered(t, "issue", w, e, impl.AnsDone)
	}
	for n, msg := range w.Bag {
		if msg.Gate != n%2 || msg.Head != headAt(t, w.Market.Log, n) || len(msg.Proof) != 0 {
			t.Fatalf("the %d message is %+v", n, msg)
		}
	}
	turnsNothing(t, "BagMax are on their way", w, at(impl.EvSend, 0))
	turnsNothing(t, "BagMax are on their way", w, at(impl.EvTwice, 0))
	w = does(t, w, at(impl.EvLose, 2), at(impl.EvSend, 1))
	for n, size := range []int{0, 1, 3, 4, 5, 6} {
		if w.Bag[n].Head.Size != size {
			t.Fatalf("on their way are %+v", w.Bag)
		}
	}
}

// Promise 71, and 73 of what is lost and what is there twice.
func TestWldMessages(t *testing.T) {
	taken, left := 0, 0
	everyWorld(166, func(r *row, w impl.WldWorld) {
		for place, msg := range w.Bag {
			heard, lost, twice := clonedWorld(w), clonedWorld(w), clonedWorld(w)
			lost.Bag = slices.Delete(lost.Bag, place, place+1)
			sameWorld(t, "lose", answered(t, "lose", w, at(impl.EvLose, place), 0), lost)

			gate, ok := impl.GatSync(w.Gates[msg.Gate], msg.Head, msg.Proof)
			heard.Gates[msg.Gate], heard.Bag = gate, lost.Bag
			sameWorld(t, "hear", answered(t, "hear", w, at(impl.EvHear, place), 0), heard)
			if ok {
				taken++
			} else {
				left++
			}

			if len(w.Bag) < impl.BagMax {
				twice.Bag = append(twice.Bag, msg)
			}
			sameWorld(t, "twice", answered(t, "twice", w, at(impl.EvTwice, place), 0), twice)
		}
	})
	if taken < 100 || left < 100 {
		t.Fatalf("%d heads were taken, %d were not", taken, left)
	}
}

// Heads come in order, late, twice, or not at all; a gate takes each that follows its own, and no other one.
func TestWldHeadsOnTheirWay(t *testing.T) {
	w := issued(t, fresh(), 2, 3)
	w = does(t, w, at(impl.EvSend, 0)) // of two entries, to a gate that knows of none
	w = sold(t, w, 0, 2, 4)
	w = does(t, w, at(impl.EvSend, 0), at(impl.EvTwice, 0), at(impl.EvTwice, 1)) // of two, three, two, three

	late := does(t, w, at(impl.EvHear, 1))
	if late.Gates[0].Head != headAt(t, w.Market.Log, 3) || late.Gates[1].Head.Size != 0 {
		t.Fatalf("the third entry is not heard of: %+v", late.Gates)
	}
	for range 2 {
		late = does(t, late, at(impl.EvHear, 0))
		if late.Gates[0].Head.Size != 3 {
			t.Fatalf("a late head was taken: %+v", late.Gates)
		}
	}
	// The last one was sent to a gate that knew of none: the head is the gate's own, and is taken without a number.
	if late = does(t, late, at(impl.EvHear, 0)); late.Gates[0].Head.Size != 3 || len(late.Bag) != 0 {
		t.Fatalf("%+v", late)
	}

	inOrder := does(t, w, at(impl.EvHear, 0))
	if inOrder.Gates[0].Head != headAt(t, w.Market.Log, 2) {
		t.Fatalf("the second entry is not heard of: %+v", inOrder.Gates)
	}
	inOrder = does(t, inOrder, at(impl.EvHear, 0))
	// It was sent without a proof that it follows the second one, as the gate knew of none then.
	if inOrder.Gates[0].Head.Size != 2 || len(inOrder.Bag) != 2 {
		t.Fatalf("a head was taken that is not shown to follow: %+v", inOrder.Gates)
	}
	inOrder = does(t, inOrder, at(impl.EvSend, 0), at(impl.EvHear, 2))
	if inOrder.Gates[0].Head.Size != 3 {
		t.Fatalf("a head was not taken that is shown to follow: %+v", inOrder.Gates)
	}

	lost := does(t, w, at(impl.EvLose, 3), at(impl.EvLose, 0), at(impl.EvLose, 0), at(impl.EvLose, 0))
	if lost.Gates[0].Head.Size != 0 || len(lost.Bag) != 0 {
		t.Fatalf("a head that was lost is heard: %+v", lost)
	}
}

// Promise 15, with messages on their way, at any time.
func TestWldFallLosesNothingElse(t *testing.T) {
	underWay, n := 0, 0
	everyStep(167, func(r *row, s step) {
		if n++; n%7 > 0 && s.event.Kind != impl.EvFall {
			return
		}
		fallen, answer := impl.WldStep(s.after, impl.EvEvent{Kind: impl.EvFall})
		want := clonedWorld(s.after)
		want.Bag = nil
		sameWorld(t, "behind a fall", fallen, want)
		market, ok := impl.WldFold(s.after.First, s.after.Lines)
		if !ok || answer != 0 {
			t.Fatalf("WldFold of the lines is %v, EvFall is answered %d", ok, answer)
		}
		sameHouse(t, "the market of the lines", market, s.after.Market)
		if len(s.after.Bag) > 0 {
			underWay++
		}
	})
	if underWay < 200 {
		t.Fatalf("only %d times something was on its way", underWay)
	}
}

// In a world whose lines are not the market's own the market is theirs behind a fall, if they are of one; gates, lines and first purses stay.
func TestWldFallOfOtherLines(t *testing.T) {
	folded, kept := 0, 0
	everyWorld(168, func(r *row, w impl.WldWorld) {
		fallen := answered(t, "fall", w, impl.EvEvent{Kind: impl.EvFall}, 0)
		want := clonedWorld(w)
		want.Bag = nil
		if market, ok := impl.WldFold(w.First, w.Lines); ok {
			want.Market = market
			folded++
		} else {
			kept++
		}
		sameWorld(t, "fall", fallen, want)
		if !impl.WldOk(fallen) {
			t.Fatalf("%+v is not ok", fallen)
		}
	})
	if folded < 100 || kept < 50 {
		t.Fatalf("%d markets are of the lines, %d stay", folded, kept)
	}
}

// Promise 17, in worlds of any kind: who goes through is who has the ticket behind the gate's entries, and is not through; and nothing but Done at that gate turns.
func TestWldShow(t *testing.T) {
	answers := map[int]int{}
	everyWorld(169, func(r *row, w impl.WldWorld) {
		for range 20 {
			e := show(r.below(impl.GateMax), r.below(impl.TikMax), r.below(impl.UsrMax+2))
			gate := w.Gates[e.At]
			short := gate.Head.Size > len(w.Market.Log)
			rows, _ := slowFold(w.Market.Log[:min(gate.Head.Size, len(w.Market.Log))])
			row := rows[e.Ticket]
			if r.below(2) == 0 {
				e.Who = row.Who
			}
			got, answer := happens(t, "show", w, e)
			answers[answer]++
			has := row.Who == e.Who && e.Who > 0 && !row.Used && !slices.Contains(gate.Done, e.Ticket)
			if short && answer != 0 || !short && answer == 0 || answer == impl.AnsDone && !has {
				t.Fatalf("%+v at %+v, of %+v, is answered %d", e, gate, row, answer)
			}
			// A gate that goes by another Own than that of its entries is shown nothing that it takes.
			if rooted := gate.Head.Own == slowRoot(leavesOf(rows)); !short && has && rooted != (answer == impl.AnsDone) {
				t.Fatalf("%+v at %+v, of %+v, is answered %d", e, gate, row, answer)
			}
			want := clonedWorld(w)
			if answer == impl.AnsDone {
				want.Gates[e.At].Done = append(want.Gates[e.At].Done, e.Ticket)
				slices.Sort(want.Gates[e.At].Done)
			}
			sameWorld(t, "show", got, want)
		}
	})
	for _, answer := range []int{0, impl.AnsDone, impl.AnsNot} {
		if answers[answer] < 100 {
			t.Fatalf("there were %v", answers)
		}
	}
}

// Each gate lets in once, by what it has heard, whoever has the ticket by now.
func TestWldShowKnown(t *testing.T) {
	w := heard(t, issued(t, fresh(), 2, 3), 0)
	w = sold(t, w, 0, 2, 4)
	w = answered(t, "user 4 has it by now, but the gate does not know", w, show(0, 0, 4), impl.AnsNot)
	w = answered(t, "user 2 had it", w, show(0, 0, 2), impl.AnsDone)
	w = heard(t, w, 0)
	w = answered(t, "somebody was through", w, show(0, 0, 4), impl.AnsNot)
	w = answered(t, "somebody was through", w, show(0, 0, 2), impl.AnsNot)

	w = answered(t, "the other gate knows of nothing", w, show(1, 0, 4), impl.AnsNot)
	w = heard(t, w, 1)
	w = answered(t, "user 2 has it no more", w, show(1, 0, 2), impl.AnsNot)
	w = answered(t, "user 4 has it", w, show(1, 0, 4), impl.AnsDone)
	w = answered(t, "user 4 was through", w, show(1, 0, 4), impl.AnsNot)
	for who := -1; who <= impl.UsrMax+1; who++ {
		w = answered(t, "nobody has it", w, show(1, 7, who), impl.AnsNot)
	}

	w = answered(t, "user 3 enters", w, ask(3, impl.ReqEnter, 1, w), impl.AnsDone)
	if next := answered(t, "the gate does not know", w, show(0, 1, 3), impl.AnsDone); len(next.Gates[0].Done) != 2 {
		t.Fatalf("%+v", next.Gates)
	}
	w = heard(t, w, 0)
	w = answered(t, "entered with", w, show(0, 1, 3), impl.AnsNot)
	sameList(t, "through the first", w.Gates[0].Done, []int{0})
	sameList(t, "through the other", w.Gates[1].Done, []int{0})
}

// A gate that is ahead of the market shows nobody through; one whose head is none of the log's takes no row of it.
func TestWldShowOfOtherHeads(t *testing.T) {
	w := town()
	w.Market.Log, w.Market.Deals = w.Market.Log[:5], nil
	turnsNothing(t, "the market has fewer entries", w, show(1, 0, 2))
	sixth := w.Gates[1].Head
	w.Gates[1].Head = impl.HedHead{Size: 5, Log: sixth.Log, Own: sixth.Own}
	answered(t, "it stands as in the sixth", w, show(1, 0, 2), impl.AnsNot)
	w.Gates[1].Head = impl.HedHead{Size: 5, Log: 0, Own: headAt(t, w.Market.Log, 5).Own}
	answered(t, "only Own is asked", w, show(1, 0, 2), impl.AnsDone)
}
