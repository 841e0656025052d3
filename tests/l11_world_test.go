package tests

import (
	"slices"
	"testing"

	"loop.example/stileway/impl"
)

// town is a world with all there can be: the market is the shelf, something was written down, one gate is at the third entry with somebody through, one at the sixth, and messages to both are on their way.
func town() impl.WldWorld {
	log := shelf().Log
	third, _ := slowHead(log[:3])
	sixth, _ := slowHead(log)
	return impl.WldWorld{
		First:  []int{0, 100, 200, 300, 400},
		Market: shelf(),
		Lines:  []impl.WldLine{{Req: plainRequests()[0]}, {}, {Req: plainRequests()[1]}, {}, {}},
		Gates:  []impl.GatGate{{Head: third, Done: []int{0, 3}}, {Head: sixth}},
		Bag: []impl.WldMsg{
			{Gate: 0, Head: sixth, Proof: slowGrowth(log, 3)},
			{Gate: 1, Head: sixth},
			{Gate: 0, Head: third},
			{Gate: 1, Head: third, Proof: []int{1, 2, 3}},
		},
	}
}

// otherWorld is a world that is told by what of the town was turned.
type otherWorld struct {
	what string
	turn func(w *impl.WldWorld)
}

// town is the town, turned.
func (c otherWorld) town() impl.WldWorld {
	w := town()
	c.turn(&w)
	return w
}

// goodTowns are what turns the town into another world that is ok.
func goodTowns() []otherWorld {
	greatest := impl.HedHead{Size: impl.TreMax, Log: impl.MixMax - 1, Own: impl.MixMax - 1}
	list := []otherWorld{
		{"as it is", func(w *impl.WldWorld) {}},
		{"nothing was written down", func(w *impl.WldWorld) { w.Lines = nil }},
		{"LineMax lines of the clock", func(w *impl.WldWorld) { w.Lines = make([]impl.WldLine, impl.LineMax) }},
		{"LineMax lines of requests", func(w *impl.WldWorld) { w.Lines = slices.Repeat(w.Lines[:1], impl.LineMax) }},
		{"nothing is on its way", func(w *impl.WldWorld) { w.Bag = nil }},
		{"an empty list is on its way", func(w *impl.WldWorld) { w.Bag = []impl.WldMsg{} }},
		{"BagMax messages", func(w *impl.WldWorld) { w.Bag = append(w.Bag, w.Bag[:2]...) }},
		{"no message of it is one of the log", func(w *impl.WldWorld) { w.Bag = make([]impl.WldMsg, impl.BagMax) }},
		{"the longest proof", func(w *impl.WldWorld) { w.Bag[1].Proof = make([]int, impl.TreMax) }},
		{"the greatest number in a proof", func(w *impl.WldWorld) { w.Bag[3].Proof = []int{0, impl.MixMax - 1} }},
		{"the greatest head on its way", func(w *impl.WldWorld) { w.Bag[0].Head = greatest }},
		{"gates that fork, and no log has", func(w *impl.WldWorld) { w.Gates[0].Head, w.Gates[1].Head = greatest, impl.HedHead{Size: impl.TreMax} }},
		{"all are through", func(w *impl.WldWorld) { w.Gates[1].Done = []int{0, 1, 2, 3, 4, 5, 6, 7} }},
		{"full first purses, with which no market can begin", func(w *impl.WldWorld) { w.First = slices.Repeat([]int{impl.MonMax}, 5) }},
		{"empty first purses", func(w *impl.WldWorld) { w.First = make([]int, 5) }},
	}
	for _, c := range goodTurns() {
		list = append(list, otherWorld{c.what, func(w *impl.WldWorld) { c.turn(&w.Market) }})
	}
	for _, q := range plainRequests() {
		list = append(list, otherWorld{"a request of each kind", func(w *impl.WldWorld) { w.Lines[4].Req = q }})
	}
	return list
}

// wrongLines are lines that are neither nothing nor a request that is ok.
func wrongLines() []impl.WldLine {
	lines := []impl.WldLine{{Req: impl.MktReq{User: 1}}, {Req: impl.MktReq{N: 1}}, {Req: impl.MktReq{Ticket: 1}}, {Req: impl.MktReq{Who: 1}}, {Req: impl.MktReq{Price: 1}}, {Req: impl.MktReq{Price: -1}}, {Req: impl.MktReq{User: 1, N: 1}}}
	for kind := -1; kind <= 8; kind++ {
		lines = append(lines, impl.WldLine{Req: impl.MktReq{Kind: kind, Ticket: 2}}, impl.WldLine{Req: impl.MktReq{User: 6, N: 1, Kind: kind, Ticket: 2}})
	}
	for _, q := range plainRequests() {
		for _, n := range append(far(), -1) {
			for _, part := range []*int{&q.User, &q.N, &q.Kind, &q.Ticket} {
				before := *part
				if *part = n; !slowReqOk(q) {
					lines = append(lines, impl.WldLine{Req: q})
				}
				*part = before
			}
		}
	}
	return lines
}

// wrongTowns are what turns the town into a world that is not ok, part by part.
func wrongTowns() []otherWorld {
	list := []otherWorld{
		{"nothing", func(w *impl.WldWorld) { *w = impl.WldWorld{} }},
		{"one line too many", func(w *impl.WldWorld) { w.Lines = make([]impl.WldLine, impl.LineMax+1) }},
		{"one request too many", func(w *impl.WldWorld) { w.Lines = slices.Repeat(w.Lines[:1], impl.LineMax+1) }},
		{"no gates", func(w *impl.WldWorld) { w.Gates, w.Bag = nil, nil }},
		{"one gate", func(w *impl.WldWorld) { w.Gates, w.Bag = w.Gates[:1], nil }},
		{"three gates", func(w *impl.WldWorld) { w.Gates = append(w.Gates, w.Gates[0]) }},
		{"one message too many", func(w *impl.WldWorld) { w.Bag = append(w.Bag, w.Bag[:3]...) }},
		{"one message of nothing too many", func(w *impl.WldWorld) { w.Bag = make([]impl.WldMsg, impl.BagMax+1) }},
		{"a proof that is too long", func(w *impl.WldWorld) { w.Bag[1].Proof = make([]int, impl.TreMax+1) }},
	}
	for _, c := range wrongTurns() {
		list = append(list, otherWorld{"market: " + c.what, func(w *impl.WldWorld) { c.turn(&w.Market) }})
	}
	for _, purses := range wrongPurses() {
		list = append(list, otherWorld{"first purses", func(w *impl.WldWorld) { w.First = purses }})
	}
	for _, line := range wrongLines() {
		for _, at := range []int{0, 2, 4} {
			list = append(list, otherWorld{"a line", func(w *impl.WldWorld) { w.Lines[at] = line }})
		}
	}
	for at := range impl.GateMax {
		for _, g := range wrongGates(town().Gates[at]) {
			list = append(list, otherWorld{"a gate", func(w *impl.WldWorld) { w.Gates[at] = g }})
		}
	}
	for at := range 4 {
		for _, n := range append(far(), -1, impl.GateMax) {
			list = append(list, otherWorld{"a message to no gate", func(w *impl.WldWorld) { w.Bag[at].Gate = n }})
		}
		for _, h := range wrongHeads(town().Bag[at].Head) {
			list = append(list, otherWorld{"a head on its way", func(w *impl.WldWorld) { w.Bag[at].Head = h }})
		}
		for _, n := range noMixed() {
			list = append(list, otherWorld{"a proof on its way", func(w *impl.WldWorld) { w.Bag[at].Proof = []int{5, n} }})
			list = append(list, otherWorld{"a proof on its way", func(w *impl.WldWorld) { w.Bag[at].Proof = []int{n, 5} }})
		}
	}
	return list
}

// someEvents are one event of each kind, each of which turns the town, or is answered.
func someEvents() []impl.EvEvent {
	return []impl.EvEvent{
		{Kind: impl.EvAsk, Req: impl.MktReq{User: 2, N: 2, Kind: impl.ReqOffer, Ticket: 7, Price: 1}},
		{Kind: impl.EvTick},
		{Kind: impl.EvFall},
		{Kind: impl.EvSend, At: 1},
		{Kind: impl.EvHear, At: 0},
		{Kind: impl.EvLose, At: 1},
		{Kind: impl.EvTwice, At: 2},
		{Kind: impl.EvShow, At: 1, Ticket: 7, Who: 2},
		{Kind: impl.EvTell, At: 0},
	}
}

func TestWldLimits(t *testing.T) {
	kinds := []int{impl.EvAsk, impl.EvTick, impl.EvFall, impl.EvSend, impl.EvHear, impl.EvLose, impl.EvTwice, impl.EvShow, impl.EvTell}
	sameList(t, "kinds", kinds, []int{1, 2, 3, 4, 5, 6, 7, 8, 9})
	sameList(t, "limits", []int{impl.GateMax, impl.BagMax, impl.LineMax, impl.EvMaxRun}, []int{2, 6, 300, 300})
}

// Promise 63.
func TestWldNew(t *testing.T) {
	for _, purses := range [][]int{{0, 0, 0, 0, 0}, {0, 100, 100, 100, 90}, {impl.MonMax, 0, 0, 0, 0}, {20000, 20000, 20000, 20000, 20000}, {1, 2, 3, 4, impl.MonMax - 10}} {
		w, none := impl.WldNew(purses), sevenHeads()[0]
		sameWorld(t, "new", w, impl.WldWorld{
			First:  purses,
			Market: impl.MktHouse{Purses: purses, Nums: make([]int, 5), Said: make([]int, 5)},
			Gates:  []impl.GatGate{{Head: none}, {Head: none}},
		})
		sameHouse(t, "its market", w.Market, impl.MktNew(purses))
		for _, g := range w.Gates {
			sameGate(t, "its gates", g, impl.GatNew())
		}
		if !impl.WldOk(w) {
			t.Fatalf("%+v is not ok", w)
		}
	}
	more := [][]int{{impl.MonMax, 1, 0, 0, 0}, {0, 0, 0, 1, impl.MonMax}, {20000, 20000, 20000, 20000, 20001}, slices.Repeat([]int{impl.MonMax}, 5)}
	for _, purses := range slices.Concat(more, wrongPurses()) {
		w := impl.WldNew(purses)
		sameWorld(t, "of wrong purses", w, impl.WldWorld{})
		if impl.WldOk(w) {
			t.Fatalf("%+v is ok", w)
		}
	}
}

// Promise 64, part by part.
func TestWldOk(t *testing.T) {
	for _, c := range goodTowns() {
		if w := c.town(); !impl.WldOk(w) || !slowWldOk(w) {
			t.Errorf("%s: not ok: %+v", c.what, w)
		}
	}
	for _, c := range wrongTowns() {
		if w := c.town(); impl.WldOk(w) || slowWldOk(w) && impl.MktOk(w.Market) {
			t.Errorf("%s: ok: %+v", c.what, w)
		}
	}
}

// Promise 64, of worlds of any kind with one number turned.
func TestWldOkJustOfPartsThatAreOk(t *testing.T) {
	good, wrong := 0, 0
	everyWorld(150, func(r *row, w impl.WldWorld) {
		if !impl.WldOk(w) {
			t.Fatalf("not ok: %+v", w)
		}
		for range 8 {
			other := clonedWorld(w)
			numbers := []*int{&other.First[r.below(5)], &other.Gates[r.below(2)].Head.Size, &other.Gates[r.below(2)].Head.Log, &other.Gates[r.below(2)].Head.Own}
			if len(other.Lines) > 0 {
				q := &other.Lines[r.below(len(other.Lines))].Req
				numbers = append(numbers, &q.User, &q.N, &q.Kind, &q.Ticket, &q.Who, &q.Price)
			}
			if len(other.Bag) > 0 {
				msg := &other.Bag[r.below(len(other.Bag))]
				numbers = append(numbers, &msg.Gate, &msg.Head.Size, &msg.Head.Log, &msg.Head.Own)
				for i := range msg.Proof {
					numbers = append(numbers, &msg.Proof[i])
				}
			}
			*numbers[r.below(len(numbers))] += []int{-1, 1, -2, 2, impl.MixMax, -impl.MixMax, 41, 100001}[r.below(8)]
			if got := impl.WldOk(other); got != slowWldOk(other) {
				t.Fatalf("WldOk is %v: %+v", got, other)
			} else if got {
				good++
			} else {
				wrong++
			}
		}
	})
	if good < 500 || wrong < 500 {
		t.Fatalf("%d worlds are ok, %d are not", good, wrong)
	}
}

// In a world that is not ok nothing can happen: it is nothing behind each event, and behind a run of none.
func TestWldOfWrongWorlds(t *testing.T) {
	for _, c := range wrongTowns() {
		w := c.town()
		for _, e := range append(someEvents(), impl.EvEvent{}, impl.EvEvent{Kind: 10}) {
			after, answer := impl.WldStep(w, e)
			if answer != 0 {
				t.Fatalf("%s: WldStep of %+v is %d", c.what, e, answer)
			}
			sameWorld(t, c.what+": a step", after, impl.WldWorld{})
			sameWorld(t, c.what+": a run", impl.WldRun(w, []impl.EvEvent{e}), impl.WldWorld{})
		}
		sameWorld(t, c.what+": a run of nothing", impl.WldRun(w, nil), impl.WldWorld{})
	}
}

// Promise 74.
func TestWldMoney(t *testing.T) {
	held := 0
	everyWorld(151, func(r *row, w impl.WldWorld) {
		want := slowHeld(w.Market)
		if want > 0 {
			held++
		}
		for _, n := range w.Market.Purses {
			want += n
		}
		if got := impl.WldMoney(w); got != want || got != impl.MonSum(w.Market.Purses)+impl.MktHeld(w.Market) || got > impl.MonMax {
			t.Fatalf("WldMoney is %d, not %d: %+v", got, want, w)
		}
	})
	if held < 50 {
		t.Fatalf("only in %d worlds something is held", held)
	}
	if got := impl.WldMoney(impl.WldWorld{}); got != 0 {
		t.Fatalf("WldMoney of nothing is %d", got)
	}
	if got := impl.WldMoney(town()); got != 1061 {
		t.Fatalf("WldMoney of the town is %d", got)
	}
	// It is told of any world, be it ok or not.
	odd := impl.WldWorld{First: []int{9}, Market: impl.MktHouse{Purses: []int{4, -1, 200000}, Deals: []impl.MktDeal{{Price: 7}, {Price: 30, Buyer: 9}, {Price: -5, Buyer: 1}}}}
	if got := impl.WldMoney(odd); got != 200028 {
		t.Fatalf("WldMoney is %d", got)
	}
}

// foldsTo asks what WldFold answers. Promise 67.
func foldsTo(t *testing.T, what string, first []int, lines []impl.WldLine) (impl.MktHouse, bool) {
	t.Helper()
	got, ok := impl.WldFold(first, lines)
	want, wantOk := slowWldFold(first, lines)
	if ok != wantOk || ok != (impl.MktOk(got)) {
		t.Fatalf("%s: WldFold of %v and %v is %v", what, first, lines, ok)
	}
	sameHouse(t, what, got, want)
	return got, ok
}

// Promise 67: each line behind the other is one of MktTick and MktDo, and one that is neither spoils all.
func TestWldFold(t *testing.T) {
	r := &row{152}
	wrong := wrongLines()
	for range 60 {
		first := []int{r.below(50), 300, 50 + r.below(300), r.below(300), r.below(60)}
		lines := r.lines(r.below(60))
		m := impl.MktNew(first)
		for i, line := range lines {
			got, ok := foldsTo(t, "so many lines", first, lines[:i])
			if !ok {
				t.Fatalf("WldFold of %v is false", lines[:i])
			}
			sameHouse(t, "so many lines, one behind the other", got, m)
			if line == (impl.WldLine{}) {
				m, _ = impl.MktTick(m)
			} else {
				m, _ = impl.MktDo(m, line.Req)
			}
			for range 5 {
				if _, ok := foldsTo(t, "a wrong line", first, with(lines, i, wrong[r.below(len(wrong))])); ok {
					t.Fatal("WldFold of a line that is none is true")
				}
			}
		}
		got, _ := foldsTo(t, "all", first, lines)
		sameHouse(t, "all lines, one behind the other", got, m)
	}
	for _, line := range wrong {
		if _, ok := foldsTo(t, "a wrong line alone", []int{0, 100, 100, 100, 90}, []impl.WldLine{line}); ok {
			t.Fatalf("WldFold of %v is true", line)
		}
	}
}

func TestWldFoldEdges(t *testing.T) {
	first := []int{0, 100, 100, 100, 90}
	for _, none := range [][]impl.WldLine{nil, {}} {
		m, ok := foldsTo(t, "no lines", first, none)
		if !ok {
			t.Fatal("WldFold of no lines is false")
		}
		sameHouse(t, "no lines", m, impl.MktNew(first))
	}
	for n := impl.LineMax - 2; n <= impl.LineMax+2; n++ {
		for _, line := range []impl.WldLine{{}, {Req: plainRequests()[0]}} {
			m, ok := foldsTo(t, "many lines", first, slices.Repeat([]impl.WldLine{line}, n))
			if ok != (n <= impl.LineMax) {
				t.Fatalf("WldFold of %d lines is %v", n, ok)
			}
			if ok && line == (impl.WldLine{}) && m.Clock != n {
				t.Fatalf("%d ticks lead to %d", n, m.Clock)
			}
		}
	}
	more := [][]int{{impl.MonMax, 1, 0, 0, 0}, {20000, 20000, 20000, 20000, 20001}, slices.Repeat([]int{impl.MonMax}, 5)}
	for _, purses := range slices.Concat(more, wrongPurses()) {
		for _, lines := range [][]impl.WldLine{nil, {{}}, {{Req: plainRequests()[0]}}, make([]impl.WldLine, impl.LineMax+1)} {
			m, ok := foldsTo(t, "wrong purses", purses, lines)
			if ok {
				t.Fatalf("WldFold of %v is true", purses)
			}
			sameHouse(t, "wrong purses", m, impl.MktHouse{})
		}
	}
}

// What is written down of requests that are refused, asked twice, or too old is folded as well.
func TestWldFoldKnown(t *testing.T) {
	all := plainRequests()
	lines := []impl.WldLine{{Req: all[0]}, {Req: all[0]}, {}, {Req: all[1]}, {Req: impl.MktReq{User: 4, N: 1, Kind: impl.ReqEnter, Ticket: 0}}, {Req: all[3]}, {}, {}, {Req: all[4]}, {Req: all[2]}, {Req: all[5]}}
	m, ok := foldsTo(t, "known", []int{0, 100, 100, 100, 90}, lines)
	if !ok {
		t.Fatal("WldFold is false")
	}
	sameHouse(t, "known", m, impl.MktHouse{
		Log:    []impl.EntEntry{{Kind: impl.EntIssue, Ticket: 0, Who: 2, Price: 40}, {Kind: impl.EntPass, Ticket: 0, Who: 3, Price: 48}, {Kind: impl.EntEnter, Ticket: 0, Who: 3}},
		Purses: []int{40, 108, 52, 100, 90},
		Clock:  3,
		Nums:   []int{1, 3, 2, 1, 0},
		Said:   []int{impl.AnsDone, impl.AnsDone, impl.AnsDone, impl.AnsMayNot, 0},
	})
}

// events is so many events that may happen one behind the other, from a world on.
func (r *row) events(w impl.WldWorld, n int) []impl.EvEvent {
	list := make([]impl.EvEvent, n)
	for i := range list {
		list[i] = r.event(w)
		w, _ = impl.WldStep(w, list[i])
	}
	return list
}

// Promise 76: a run cut in two is the run, and so are steps.
func TestWldRun(t *testing.T) {
	r := &row{153}
	for n := range 24 {
		w := []impl.WldWorld{impl.WldNew([]int{0, 300, 200, 100, 60}), town(), r.world()}[n%3]
		events := r.events(w, []int{0, 1, 2, 7, 40, impl.EvMaxRun - 1, impl.EvMaxRun}[r.below(7)])
		if n == 0 {
			events = r.events(w, impl.EvMaxRun)
		}
		whole := impl.WldRun(w, events)
		if !impl.WldOk(whole) {
			t.Fatalf("%+v is not ok", whole)
		}
		stepped, slow := w, w
		for _, e := range events {
			stepped, _ = impl.WldStep(stepped, e)
			slow, _ = slowStep(slow, e)
		}
		sameWorld(t, "steps", stepped, whole)
		sameWorld(t, "slow steps", slow, whole)
		for _, cut := range []int{0, r.below(len(events) + 1), r.below(len(events) + 1), len(events)} {
			sameWorld(t, "cut in two", impl.WldRun(impl.WldRun(w, events[:cut]), events[cut:]), whole)
		}
	}
}

func TestWldRunEdges(t *testing.T) {
	for _, w := range []impl.WldWorld{town(), impl.WldNew([]int{0, 300, 200, 100, 60})} {
		for _, none := range [][]impl.EvEvent{nil, {}} {
			sameWorld(t, "a run of nothing", impl.WldRun(w, none), w)
		}
		sameWorld(t, "a run of no kinds", impl.WldRun(w, make([]impl.EvEvent, impl.EvMaxRun)), w)
		for _, n := range []int{impl.EvMaxRun + 1, impl.EvMaxRun + 2, 1000} {
			sameWorld(t, "too long a run", impl.WldRun(w, make([]impl.EvEvent, n)), impl.WldWorld{})
		}
		ticks := slices.Repeat([]impl.EvEvent{{Kind: impl.EvTick}}, impl.EvMaxRun)
		if got := impl.WldRun(w, ticks); got.Market.Clock != w.Market.Clock+impl.LineMax-len(w.Lines) || len(got.Lines) != impl.LineMax {
			t.Fatalf("the longest run of ticks leads to %+v", got)
		}
	}
}
