package tests

import (
	"slices"
	"testing"

	"loop.example/stileway/impl"
)

// tellable is the tickets that are Done at a gate, that somebody has and nobody has entered with, and that are not offered.
func tellable(w impl.WldWorld, gate int) []int {
	var tickets []int
	rows, _ := slowFold(w.Market.Log)
	for _, ticket := range w.Gates[gate].Done {
		if _, offered := slowDeals(w.Market)[ticket]; rows[ticket].Who > 0 && !rows[ticket].Used && !offered {
			tickets = append(tickets, ticket)
		}
	}
	return tickets
}

// roomToTell says whether there is room for an entry and a line of each ticket that is Done at a gate, and for as many numbers of each user.
func roomToTell(w impl.WldWorld, gate int) bool {
	n := len(w.Gates[gate].Done)
	return len(w.Market.Log)+n <= impl.TreMax && len(w.Lines)+n <= impl.LineMax && slices.Max(w.Market.Nums)+n <= impl.MktMaxN
}

// Promise 72.
func TestWldTell(t *testing.T) {
	entered, several, offered := 0, 0, 0
	telling := func(w impl.WldWorld) {
		for gate := range impl.GateMax {
			told := answered(t, "tell", w, at(impl.EvTell, gate), 0)
			if !roomToTell(w, gate) {
				continue
			}
			rows, all := impl.MktRows(told.Market), tellable(w, gate)
			for _, ticket := range all {
				if !rows[ticket].Used {
					t.Fatalf("ticket %d was not entered with: %+v", ticket, told)
				}
				entered++
			}
			for ticket, row := range impl.MktRows(w.Market) {
				if !slices.Contains(all, ticket) && rows[ticket] != row {
					t.Fatalf("ticket %d is %v, it was %v", ticket, rows[ticket], row)
				}
			}
			if len(all) > 1 {
				several++
			}
			if len(all) < len(w.Gates[gate].Done) {
				offered++
			}
		}
	}
	everyWorld(170, func(r *row, w impl.WldWorld) { telling(w) })
	everyStep(171, func(r *row, s step) { telling(s.after) })
	if entered < 200 || several < 50 || offered < 100 {
		t.Fatalf("%d tickets were entered with, %d times several, %d times not all", entered, several, offered)
	}
}

// fourThrough is a world with four tickets, three of them user 2's, and all through the first gate.
func fourThrough(t *testing.T) impl.WldWorld {
	t.Helper()
	w := heard(t, issued(t, fresh(), 2, 2, 3, 2), 0)
	for ticket, who := range []int{2, 2, 3, 2} {
		w = answered(t, "through", w, show(0, ticket, who), impl.AnsDone)
	}
	return w
}

// What a gate tells is asked ticket by ticket, with the next number each, and written down; of who has it by now.
func TestWldTellKnown(t *testing.T) {
	w := sold(t, fourThrough(t), 1, 2, 5)
	before := len(w.Lines)
	told := does(t, w, at(impl.EvTell, 0))
	enter := func(user int, n int, ticket int) impl.WldLine {
		return impl.WldLine{Req: impl.MktReq{User: user, N: n, Kind: impl.ReqEnter, Ticket: ticket}}
	}
	sameList(t, "lines", told.Lines[before:], []impl.WldLine{enter(2, 3, 0), enter(5, 2, 1), enter(3, 1, 2), enter(2, 4, 3)})
	for ticket, row := range impl.MktRows(told.Market) {
		if row.Used != (ticket < 4) {
			t.Fatalf("ticket %d is %v", ticket, row)
		}
	}
	sameList(t, "through", told.Gates[0].Done, []int{0, 1, 2, 3})
	turnsNothing(t, "all were told", told, at(impl.EvTell, 0))
	turnsNothing(t, "nobody is through", w, at(impl.EvTell, 1))
}

// A ticket that is offered is asked for, and not entered with; the one behind it is.
func TestWldTellOfAnOffer(t *testing.T) {
	w := fourThrough(t)
	offer := ask(2, impl.ReqOffer, 0, w)
	offer.Req.Price = 12
	w = answered(t, "offer", w, offer, impl.AnsDone)
	for _, funded := range []bool{false, true} {
		if funded {
			w = answered(t, "fund", w, ask(4, impl.ReqFund, 0, w), impl.AnsDone)
		}
		told := does(t, w, at(impl.EvTell, 0))
		var used []bool
		for _, row := range impl.MktRows(told.Market)[:4] {
			used = append(used, row.Used)
		}
		sameList(t, "entered with", used, []bool{false, true, true, true})
		if len(told.Lines) != len(w.Lines)+4 || told.Market.Nums[1] != 4 {
			t.Fatalf("%+v", told)
		}
	}
}

// With room for some of it only the first ones are entered with.
func TestWldTellWithNoRoom(t *testing.T) {
	w := fourThrough(t)
	lines := clonedWorld(w)
	for len(lines.Lines) < impl.LineMax-2 {
		lines = does(t, lines, impl.EvEvent{Kind: impl.EvTick})
	}
	told := does(t, lines, at(impl.EvTell, 0))
	sameList(t, "two lines", told.Market.Log[4:], []impl.EntEntry{{Kind: impl.EntEnter, Ticket: 0, Who: 2}, {Kind: impl.EntEnter, Ticket: 1, Who: 2}})
	turnsNothing(t, "no line", told, at(impl.EvTell, 0))

	entries := clonedWorld(w)
	for n := 0; len(entries.Market.Log) < impl.TreMax-1; n++ {
		entries = sold(t, entries, 0, 2+n%2, 3-n%2)
	}
	told = does(t, entries, at(impl.EvTell, 0))
	if len(told.Market.Log) != impl.TreMax || told.Market.Log[impl.TreMax-1].Kind != impl.EntEnter || len(told.Lines) != len(entries.Lines)+4 {
		t.Fatalf("%+v", told)
	}
	sameList(t, "answers", told.Market.Said, []int{impl.AnsDone, impl.AnsFull, impl.AnsFull, 0, 0})

	last := ask(2, impl.ReqDrop, 7, w)
	last.Req.N = impl.MktMaxN - 1
	numbers := answered(t, "the last number but one", w, last, impl.AnsMayNot)
	told = does(t, numbers, at(impl.EvTell, 0))
	sameList(t, "one number", told.Market.Log[4:], []impl.EntEntry{{Kind: impl.EntEnter, Ticket: 0, Who: 2}, {Kind: impl.EntEnter, Ticket: 2, Who: 3}})
	sameList(t, "numbers", told.Market.Nums, []int{4, impl.MktMaxN, 1, 0, 0})
	turnsNothing(t, "no number", told, at(impl.EvTell, 0))
}

// A ticket that nobody has is Done at a gate of a world that did not begin so; it is not told of.
func TestWldTellOfNobodysTicket(t *testing.T) {
	w := fresh()
	w.Gates[0].Done = []int{0, 1, 2, 3, 4, 5, 6, 7}
	turnsNothing(t, "nobody has one", w, at(impl.EvTell, 0))
	w = issued(t, w, 2)
	w = does(t, w, at(impl.EvTell, 0))
	if len(w.Market.Log) != 2 || w.Market.Log[1] != (impl.EntEntry{Kind: impl.EntEnter, Ticket: 0, Who: 2}) {
		t.Fatalf("%v", w.Market.Log)
	}
}

// Promises 14, 65 and 74: all money is what it was first, at each step, and the world is ok.
func TestWldMoneyStays(t *testing.T) {
	held := 0
	everyStep(172, func(r *row, s step) {
		sum := 0
		for _, n := range s.after.First {
			sum += n
		}
		if got := impl.WldMoney(s.after); got != sum || got > impl.MonMax {
			t.Fatalf("behind %+v there is %d, not %d", s.event, got, sum)
		}
		if !impl.WldOk(s.after) {
			t.Fatalf("behind %+v: not ok: %+v", s.event, s.after)
		}
		if impl.MktHeld(s.after.Market) > 0 {
			held++
		}
	})
	if held < 200 {
		t.Fatalf("only %d times something was held", held)
	}
}

// Promises 16 and 66: each gate, and each message, goes by a head of the log, so that no two fork; a gate's never falls.
func TestWldHeadsAreOfTheLog(t *testing.T) {
	several, rose := 0, 0
	everyStep(173, func(r *row, s step) {
		var heads []impl.HedHead
		for gate, g := range s.after.Gates {
			heads = append(heads, g.Head)
			if g.Head.Size < s.before.Gates[gate].Head.Size {
				t.Fatalf("behind %+v gate %d falls to %v", s.event, gate, g.Head)
			}
			if g.Head.Size > s.before.Gates[gate].Head.Size {
				rose++
			}
		}
		for _, msg := range s.after.Bag {
			heads = append(heads, msg.Head)
		}
		for i, h := range heads {
			if at, ok := impl.HedAt(s.after.Market.Log, h.Size); !ok || at != h {
				t.Fatalf("%v is not the head at %d, %v", h, h.Size, at)
			}
			for _, other := range heads[:i] {
				forks(t, "of one log", h, other, false)
			}
		}
		slices.SortFunc(heads, func(a impl.HedHead, b impl.HedHead) int { return a.Size - b.Size })
		if heads = slices.Compact(heads); len(heads) > 2 {
			several++
		}
		allOf(t, "gates and messages", heads, s.after.Market.Log, true)
	})
	if several < 200 || rose < 100 {
		t.Fatalf("%d times there were several heads, %d times a gate took a later one", several, rose)
	}
}

// Promise 17, from WldNew on: Done turns by nothing but EvShow that is answered AnsDone, and by that for who had the ticket.
func TestWldWhoGoesThroughHadTheTicket(t *testing.T) {
	went := 0
	everyStep(174, func(r *row, s step) {
		through := s.event.Kind == impl.EvShow && s.answer == impl.AnsDone
		for gate, g := range s.after.Gates {
			done := s.before.Gates[gate].Done
			if !through || gate != s.event.At {
				sameList(t, "done", g.Done, done)
				continue
			}
			rows, ok := impl.OwnFold(s.before.Market.Log[:g.Head.Size])
			row := rows[s.event.Ticket]
			if !ok || row.Who != s.event.Who || row.Used || slices.Contains(done, s.event.Ticket) {
				t.Fatalf("%+v goes through %+v with %v", s.event, s.before.Gates[gate], row)
			}
			more := append(slices.Clone(done), s.event.Ticket)
			slices.Sort(more)
			sameList(t, "done, and one more", g.Done, more)
			went++
		}
	})
	if went < 50 {
		t.Fatalf("only %d went through", went)
	}
}

// Promise 18, and 68 of lines.
func TestWldEntriesAndLinesOnlyGrow(t *testing.T) {
	longest, lines := 0, 0
	everyStep(175, func(r *row, s step) {
		was, is := s.before.Market.Log, s.after.Market.Log
		if len(is) < len(was) || len(s.after.Lines) < len(s.before.Lines) {
			t.Fatalf("behind %+v less is written than %+v: %+v", s.event, s.before, s.after)
		}
		sameList(t, "entries", is[:len(was)], was)
		sameList(t, "lines", s.after.Lines[:len(s.before.Lines)], s.before.Lines)
		sameList(t, "first purses", s.after.First, s.before.First)
		rows, ok := impl.OwnFold(is)
		if !ok {
			t.Fatalf("%v do not follow one another", is)
		}
		for ticket := range rows {
			issues, enters := 0, 0
			for i, e := range impl.EntAbout(is, ticket) {
				if e.Kind == impl.EntIssue {
					issues += 1 + i
				}
				if e.Kind == impl.EntEnter {
					enters++
				}
				if e.Kind == impl.EntPass && e.Price > impl.EntCap(rows[ticket].Face) {
					t.Fatalf("%v is above the cap of %v", e, rows[ticket])
				}
			}
			if issues > 1 || enters > 1 || issues == 0 && enters > 0 || (issues == 1) != (rows[ticket].Who > 0) {
				t.Fatalf("ticket %d has %v", ticket, impl.EntAbout(is, ticket))
			}
		}
		longest, lines = max(longest, len(is)), max(lines, len(s.after.Lines))
	})
	if longest < impl.TreMax-5 || lines < impl.LineMax {
		t.Fatalf("there are at most %d entries and %d lines", longest, lines)
	}
}

// Promise 19.
func TestWldWhoAsksForTheNewestHeadGetsIt(t *testing.T) {
	through, n := 0, 0
	everyStep(176, func(r *row, s step) {
		if n++; n%25 > 0 {
			return
		}
		w, gate := s.after, r.below(impl.GateMax)
		for len(w.Bag) > 0 {
			w, _ = impl.WldStep(w, at(impl.EvLose, r.below(len(w.Bag))))
		}
		w = impl.WldRun(w, []impl.EvEvent{at(impl.EvSend, gate), at(impl.EvHear, 0)})
		if head, ok := impl.HedOf(w.Market.Log); !ok || w.Gates[gate].Head != head || len(w.Bag) > 0 {
			t.Fatalf("the newest head is %v, %+v goes by another one", head, w.Gates[gate])
		}
		for ticket, row := range impl.MktRows(w.Market) {
			for who := -1; who <= impl.UsrMax+1; who++ {
				want := impl.AnsNot
				if row.Who == who && who > 0 && !row.Used && !slices.Contains(w.Gates[gate].Done, ticket) {
					want = impl.AnsDone
					through++
				}
				if _, answer := impl.WldStep(w, show(gate, ticket, who)); answer != want {
					t.Fatalf("user %d shows ticket %d, %v: %d", who, ticket, row, answer)
				}
			}
		}
	})
	if through < 200 {
		t.Fatalf("only %d may go through", through)
	}
}

// Promise 73, from WldNew on: what is lost and what comes twice leaves market, lines and gates as they are; a copy goes the same way.
func TestWldTwiceIsTheSame(t *testing.T) {
	copies := 0
	everyStep(177, func(r *row, s step) {
		w := s.after
		if len(w.Bag) == 0 || len(w.Bag) == impl.BagMax {
			return
		}
		place := r.below(len(w.Bag))
		twice, _ := impl.WldStep(w, at(impl.EvTwice, place))
		back, _ := impl.WldStep(twice, at(impl.EvLose, len(w.Bag)))
		sameWorld(t, "there twice, and lost", back, w)
		one, _ := impl.WldStep(twice, at(impl.EvHear, place))
		other, _ := impl.WldStep(twice, at(impl.EvHear, len(w.Bag)))
		if !equalGates(one.Gates, other.Gates) {
			t.Fatalf("%+v and its copy lead to %+v and %+v", w.Bag[place], one.Gates, other.Gates)
		}
		copies++
	})
	if copies < 200 {
		t.Fatalf("only %d copies", copies)
	}
}
