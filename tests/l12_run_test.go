package tests

import (
	"fmt"
	"slices"
	"strings"
	"testing"

	"loop.example/stileway/impl"
)

// runs asks what DskRun answers of purses of which there is a world; it is what is told of the lines, and the world behind them.
func runs(t *testing.T, what string, purses []int, lines []string) ([]string, impl.WldWorld) {
	t.Helper()
	said, w := slowRun(purses, lines)
	sameList(t, what, impl.DskRun(purses, lines), slices.Concat(said, slowBoard(w)))
	return said, w
}

// told asks that DskRun tells this of lines, ahead of the board.
func told(t *testing.T, what string, purses []int, lines []string, want ...string) impl.WldWorld {
	t.Helper()
	said, w := runs(t, what, purses, lines)
	sameList(t, what+", answers", said, want)
	return w
}

// boards asks what DskBoard answers of a world that is ok.
func boards(t *testing.T, what string, w impl.WldWorld, want ...string) {
	t.Helper()
	sameList(t, what, impl.DskBoard(w), want)
	sameList(t, what+", slow", slowBoard(w), want)
}

func TestDskBoardKnown(t *testing.T) {
	boards(t, "at the beginning", impl.WldNew([]int{0, 100, 100, 100, 90}), "purses 0 100 100 100 90", "gate 0 at 0 through", "gate 1 at 0 through")
	boards(t, "of much", impl.WldNew([]int{0, 0, 0, impl.MonMax, 0}), "purses 0 0 0 100000 0", "gate 0 at 0 through", "gate 1 at 0 through")
	boards(t, "the town", town(),
		"ticket 0 of 2 face 40 offered 48",
		"ticket 1 of 3 face 50 offered 60 held for 1 until 20",
		"ticket 3 of 4 face 1 offered 1 held for 5 until 25",
		"ticket 5 of 5 face 10 used",
		"ticket 7 of 2 face 9",
		"purses 0 100 200 300 400",
		"gate 0 at 3 through 0 3",
		"gate 1 at 6 through")
	all := town()
	all.Market.Clock, all.Market.Deals[1].Due, all.Market.Deals[2].Due = impl.MktMaxT, impl.MktMaxT, impl.MktMaxT+impl.MktWait
	all.Gates[1].Done = []int{0, 1, 2, 3, 4, 5, 6, 7}
	boards(t, "the clock at its end, and all are through", all,
		"ticket 0 of 2 face 40 offered 48",
		"ticket 1 of 3 face 50 offered 60 held for 1 until 99999",
		"ticket 3 of 4 face 1 offered 1 held for 5 until 100004",
		"ticket 5 of 5 face 10 used",
		"ticket 7 of 2 face 9",
		"purses 0 100 200 300 400",
		"gate 0 at 3 through 0 3",
		"gate 1 at 6 through 0 1 2 3 4 5 6 7")
}

// Step by step: a ticket that is issued, offered, held, passed on, gone through with, and entered with.
func TestDskBoardStepByStep(t *testing.T) {
	lines := []string{"1 1 issue 6 2 10", "2 1 offer 6 12", "3 1 fund 6", "2 2 settle 6", "send 1", "hear 0", "show 1 6 3", "tell 1"}
	tickets := []string{"ticket 6 of 2 face 10", "ticket 6 of 2 face 10 offered 12", "ticket 6 of 2 face 10 offered 12 held for 3 until 5", "ticket 6 of 3 face 10", "ticket 6 of 3 face 10", "ticket 6 of 3 face 10", "ticket 6 of 3 face 10", "ticket 6 of 3 face 10 used"}
	purses := []string{"purses 10 40 50 50 50", "purses 10 40 50 50 50", "purses 10 40 38 50 50", "purses 10 52 38 50 50", "purses 10 52 38 50 50", "purses 10 52 38 50 50", "purses 10 52 38 50 50", "purses 10 52 38 50 50"}
	gates := []string{"gate 1 at 0 through", "gate 1 at 0 through", "gate 1 at 0 through", "gate 1 at 0 through", "gate 1 at 0 through", "gate 1 at 2 through", "gate 1 at 2 through 6", "gate 1 at 2 through 6"}
	for n := range lines {
		got := impl.DskRun([]int{0, 50, 50, 50, 50}, lines[:n+1])
		sameList(t, lines[n], got[len(got)-4:], []string{tickets[n], purses[n], "gate 0 at 0 through", gates[n]})
	}
}

// Promise 79, of worlds of any kind, and from WldNew on.
func TestDskBoard(t *testing.T) {
	seen := map[string]int{}
	board := func(w impl.WldWorld) {
		got := impl.DskBoard(w)
		sameList(t, "board", got, slowBoard(w))
		var words []string
		for _, line := range got {
			words = append(words, strings.Fields(line)[0])
			for _, word := range []string{" used", " offered", " held for", " through "} {
				if strings.Contains(line, word) {
					seen[word]++
				}
			}
		}
		have := impl.TikMax - impl.OwnCount(impl.MktRows(w.Market), 0)
		sameList(t, "lines", words, slices.Concat(slices.Repeat([]string{"ticket"}, have), []string{"purses", "gate", "gate"}))
		seen[fmt.Sprint(have)]++
	}
	everyWorld(181, func(r *row, w impl.WldWorld) { board(w) })
	everyStep(182, func(r *row, s step) { board(s.after) })
	for _, c := range goodTowns() {
		board(c.town())
	}
	for _, what := range []string{" used", " offered", " held for", " through ", "0", "1", "4", "7", "8"} {
		if seen[what] < 50 {
			t.Fatalf("there were %v", seen)
		}
	}
}

func TestDskBoardWrong(t *testing.T) {
	for _, c := range wrongTowns() {
		if got := impl.DskBoard(c.town()); len(got) > 0 {
			t.Fatalf("%s: the board is %q", c.what, got)
		}
	}
}

// The document's example.
func TestDskRunExample(t *testing.T) {
	sameList(t, "the example", impl.DskRun([]int{0, 100, 100, 100, 90}, exampleLines()), []string{
		"done", "cap", "done", "done", "not", "done",
		"not", "done", "not", "not", "done",
		"not", "done", "done", "done", "old", "done",
		"ticket 0 of 3 face 40 used",
		"ticket 1 of 4 face 30",
		"purses 70 108 52 70 90",
		"gate 0 at 2 through 0",
		"gate 1 at 2 through 0",
	})
}

func exampleLines() []string {
	return []string{
		"1 1 issue 0 2 40", "2 1 offer 0 50", "2 2 offer 0 48", "3 1 fund 0", "4 1 fund 0", "2 3 settle 0",
		"send 0", "twice 0", "hear 0", "show 0 0 2", "show 0 0 3", "show 0 0 3", "show 1 0 3", "lose 0",
		"send 1", "hear 0", "show 1 0 3", "tell 0", "tell 1", "3 3 offer 0 10",
		"1 2 issue 1 4 30", "4 2 offer 1 36", "5 1 fund 1", "tick", "tick", "tick", "tick", "tick", "tick", "fall", "4 1 fund 0", "4 3 drop 1",
	}
}

// Each answer there is, one of them by a full log.
func TestDskRunAnswers(t *testing.T) {
	purses := []int{0, 500, 500, 5, 0}
	told(t, "done", purses, []string{"1 1 issue 3 2 10"}, "done")
	told(t, "may not", purses, []string{"2 1 issue 3 2 10"}, "may not")
	told(t, "not", purses, []string{"2 1 fund 3"}, "not")
	told(t, "cap", purses, []string{"1 1 issue 3 2 10", "2 1 offer 3 13"}, "done", "cap")
	told(t, "money", purses, []string{"1 1 issue 3 4 6"}, "money")
	told(t, "old", purses, []string{"2 5 fund 3", "2 4 fund 3"}, "not", "old")
	told(t, "once more", purses, []string{"2 5 drop 3", "2 5 fund 3", "1 1 issue 3 2 10", "1 1 issue 3 2 10"}, "may not", "may not", "done", "done")
	told(t, "no tick, fall or message is answered", purses, []string{"tick", "fall", "send 0", "twice 0", "lose 1", "hear 0", "tell 0", "tell 1"})
	told(t, "nothing there", purses, []string{"send 2", "hear 0", "lose 0", "twice 0", "tell 2", "show 2 0 1", "show 0 8 1", "send 99999"})
	told(t, "nobody shows", purses, []string{"show 0 0 0", "show 1 7 99999"}, "not", "not")

	full, n := []string{"1 1 issue 3 2 10"}, 0
	for len(full) < 1+3*(impl.TreMax-1) {
		seller, buyer := 2+n%2, 3-n%2
		full = append(full, fmt.Sprintf("%d %d offer 3 12", seller, 10*n+1), fmt.Sprintf("%d %d fund 3", buyer, 10*n+2), fmt.Sprintf("%d %d settle 3", seller, 10*n+3))
		n++
	}
	want := slices.Repeat([]string{"done"}, len(full))
	told(t, "full", purses, append(full, "3 99999 enter 3", "1 2 issue 4 2 1"), append(want, "full", "full")...)
}

// numbered is what is told of so many lines that are none.
func numbered(n int) []string {
	var list []string
	for i := range n {
		list = append(list, fmt.Sprintf("line %d", i+1))
	}
	return list
}

// Lines that are none are told of by their numbers, from 1 on, and turn nothing.
func TestDskRunOfLinesThatAreNone(t *testing.T) {
	purses := []int{0, 100, 100, 100, 90}
	told(t, "one alone", purses, []string{""}, "line 1")
	told(t, "the first", purses, []string{"1 1 issue 0 2", "1 1 issue 0 2 40"}, "line 1", "done")
	told(t, "the last", purses, []string{"tick", "1 1 issue 0 2 40", "tack"}, "done", "line 3")
	told(t, "some among others", purses, []string{"tick", "tick 1", "tick", "2 1 drop 0", " tick", "tick", "fall ", "hear -1"}, "line 2", "may not", "line 5", "line 7", "line 8")
	for some := range slices.Chunk(wrongTexts(), impl.DskMaxLines-1) {
		told(t, "all of them", purses, append(slices.Clone(some), "1 1 issue 0 2 40"), append(numbered(len(some)), "done")...)
	}
	all := slices.Repeat([]string{"no"}, impl.DskMaxLines)
	told(t, "as many as there may be", purses, all, numbered(len(all))...)
	told(t, "all but one", purses, with(all, 99, "3 1 drop 0"), with(numbered(len(all)), 99, "may not")...)
}

func TestDskRunEdges(t *testing.T) {
	purses := []int{0, 100, 100, 100, 90}
	for _, lines := range [][]string{nil, {}} {
		sameList(t, "no lines", impl.DskRun(purses, lines), []string{"purses 0 100 100 100 90", "gate 0 at 0 through", "gate 1 at 0 through"})
	}
	for _, line := range []string{"tick", "1 1 issue 0 2 40", "no"} {
		for n := impl.DskMaxLines - 2; n <= impl.DskMaxLines; n++ {
			runs(t, "nearly long", purses, slices.Repeat([]string{line}, n))
		}
		for _, n := range []int{impl.DskMaxLines + 1, impl.DskMaxLines + 2, 301, 5000} {
			sameList(t, "long", impl.DskRun(purses, slices.Repeat([]string{line}, n)), []string{"long"})
		}
	}
}

// Without a world nothing is told but that, however many lines there are.
func TestDskRunOfWrongPurses(t *testing.T) {
	more := [][]int{{impl.MonMax, 1, 0, 0, 0}, {0, 0, 0, 1, impl.MonMax}, {20000, 20000, 20000, 20000, 20001}, slices.Repeat([]int{impl.MonMax}, 5)}
	for _, purses := range slices.Concat(more, wrongPurses()) {
		for _, lines := range [][]string{nil, {"tick"}, {"no"}, exampleLines(), make([]string, impl.DskMaxLines), make([]string, impl.DskMaxLines+1)} {
			sameList(t, "wrong purses", impl.DskRun(purses, lines), []string{"purses"})
		}
	}
	for _, purses := range [][]int{{0, 0, 0, 0, 0}, {impl.MonMax, 0, 0, 0, 0}, {20000, 20000, 20000, 20000, 20000}} {
		runs(t, "purses at their edges", purses, exampleLines())
	}
}

// A request that there is no line left for to be written down is not answered, and so nothing is told of it.
func TestDskRunWithLineMaxWrittenDown(t *testing.T) {
	var lines []string
	for ticket := range impl.TikMax {
		lines = append(lines, fmt.Sprintf("1 %d issue %d 2 10", ticket+1, ticket), fmt.Sprintf("2 %d offer %d 12", ticket+1, ticket))
	}
	lines = append(lines, "send 0", "hear 0")
	for ticket := range impl.TikMax {
		lines = append(lines, fmt.Sprintf("show 0 %d 2", ticket))
	}
	done := slices.Repeat([]string{"done"}, 3*impl.TikMax)
	// Each time the gate tells, eight requests are written down: what is offered is not entered with.
	tells := (impl.LineMax - 2*impl.TikMax) / impl.TikMax
	lines = append(lines, slices.Repeat([]string{"tell 0"}, tells)...)
	left := impl.LineMax - 2*impl.TikMax - tells*impl.TikMax
	for range left - 1 {
		lines = append(lines, "tick")
	}
	w := told(t, "one line is left", []int{0, 100, 0, 0, 50}, append(slices.Clone(lines), "5 1 fund 0"), append(slices.Clone(done), "done")...)
	if len(w.Lines) != impl.LineMax {
		t.Fatalf("%d lines are written down", len(w.Lines))
	}
	lines = append(lines, "tick", "5 1 fund 0", "2 1 drop 0", "no", "tick", "show 0 0 2", "1 1 issue 7 2 3")
	w = told(t, "no line is left", []int{0, 100, 0, 0, 50}, lines, append(done, fmt.Sprintf("line %d", len(lines)-3), "not")...)
	if len(w.Lines) != impl.LineMax || w.Market.Deals[0].Buyer != 0 {
		t.Fatalf("%+v", w)
	}
}

// Promise 80: lines that are ones, held against the run of the events that they are.
func TestDskRunIsTheRunOfEvents(t *testing.T) {
	r := &row{183}
	answers := map[string]int{}
	for range 60 {
		purses := []int{r.below(50), 300, 50 + r.below(300), r.below(300), r.below(60)}
		var lines, said []string
		var events []impl.EvEvent
		for _, line := range r.told(purses, impl.DskMaxLines) {
			if e, ok := impl.DskEvent(line); ok {
				lines, events = append(lines, line), append(events, e)
			}
		}
		w := impl.WldNew(purses)
		for _, e := range events {
			after, answer := impl.WldStep(w, e)
			if w = after; answer != 0 {
				said = append(said, slowAnswers()[answer])
				answers[slowAnswers()[answer]]++
			}
		}
		sameWorld(t, "the run of the events", impl.WldRun(impl.WldNew(purses), events), w)
		sameList(t, "the run of the lines", impl.DskRun(purses, lines), slices.Concat(said, impl.DskBoard(w)))
	}
	for _, answer := range slowAnswers()[1:] {
		if answer != "full" && answers[answer] < 10 {
			t.Fatalf("there were %v", answers)
		}
	}
}

// Promise 81, and what is told: of the first lines it is the beginning of what is told of all, whether they are ones or not.
func TestDskRunOfTheFirstLines(t *testing.T) {
	r := &row{184}
	longest, wrong := 0, 0
	for range 40 {
		purses := []int{r.below(50), 2000, 50 + r.below(300), r.below(3000), r.below(60)}
		lines := r.told(purses, impl.DskMaxLines)
		said, w := runs(t, "all", purses, lines)
		for n := 0; n <= len(lines); n += 1 + r.below(20) {
			first, behind := runs(t, "the first", purses, lines[:n])
			sameList(t, "what is told of the first", first, said[:len(first)])
			sameList(t, "entries behind the first", behind.Market.Log, w.Market.Log[:len(behind.Market.Log)])
			sameList(t, "entries by events", entriesBehind(purses, lines[:n]), w.Market.Log[:len(behind.Market.Log)])
		}
		longest = max(longest, len(w.Market.Log))
		for _, line := range said {
			if strings.HasPrefix(line, "line ") {
				wrong++
			}
		}
	}
	if longest < 15 || wrong < 100 {
		t.Fatalf("there are at most %d entries, %d lines are none", longest, wrong)
	}
}

// entriesBehind is the entries behind lines, by what the program reads from them.
func entriesBehind(purses []int, lines []string) []impl.EntEntry {
	var events []impl.EvEvent
	for _, line := range lines {
		if e, ok := impl.DskEvent(line); ok {
			events = append(events, e)
		}
	}
	return impl.WldRun(impl.WldNew(purses), events).Market.Log
}
