package tests

import (
	"fmt"
	"regexp"
	"slices"
	"strconv"
	"strings"

	"loop.example/stileway/impl"
)

// What lines are held against: the document's forms, written down once more as patterns and formats, upon the slow world.

// slowWords is the word of each kind of request.
func slowWords() map[int]string {
	return map[int]string{1: "issue", 2: "offer", 3: "drop", 4: "fund", 5: "settle", 6: "enter"}
}

// slowReqText is ReqText of a request that is ok, and what a request that is not ok would look like.
func slowReqText(q impl.MktReq) string {
	text := fmt.Sprintf("%d %d %s %d", q.User, q.N, slowWords()[q.Kind], q.Ticket)
	switch q.Kind {
	case impl.ReqIssue:
		text += fmt.Sprintf(" %d %d", q.Who, q.Price)
	case impl.ReqOffer:
		text += fmt.Sprintf(" %d", q.Price)
	}
	return text
}

// slowLine is the line of what happens; of what no line tells it is none.
func slowLine(e impl.EvEvent) string {
	switch e.Kind {
	case impl.EvAsk:
		return slowReqText(e.Req)
	case impl.EvTick:
		return "tick"
	case impl.EvFall:
		return "fall"
	case impl.EvShow:
		return fmt.Sprintf("show %d %d %d", e.At, e.Ticket, e.Who)
	}
	return fmt.Sprintf("%s %d", map[int]string{4: "send", 5: "hear", 6: "lose", 7: "twice", 9: "tell"}[e.Kind], e.At)
}

// form is a pattern of lines, and what happens by the numbers in one.
type form struct {
	pattern *regexp.Regexp
	event   func(n []int) impl.EvEvent
}

// forms are all there are.
func forms() []form {
	var list []form
	add := func(pattern string, event func(n []int) impl.EvEvent) {
		pattern = strings.NewReplacer("USER", "([1-5])", "TICKET", "([0-7])", "NUMBER", "([1-9][0-9]{0,4})", "ANY", "(0|[1-9][0-9]{0,4})").Replace(pattern)
		list = append(list, form{regexp.MustCompile(`\A` + pattern + `\z`), event})
	}
	asks := func(q impl.MktReq) impl.EvEvent { return impl.EvEvent{Kind: 1, Req: q} }
	add("USER NUMBER issue TICKET USER ([1-9]|[1-4][0-9]|50)", func(n []int) impl.EvEvent {
		return asks(impl.MktReq{User: n[0], N: n[1], Kind: 1, Ticket: n[2], Who: n[3], Price: n[4]})
	})
	add("USER NUMBER offer TICKET ([1-9][0-9]{0,2})", func(n []int) impl.EvEvent {
		return asks(impl.MktReq{User: n[0], N: n[1], Kind: 2, Ticket: n[2], Price: n[3]})
	})
	for kind := 3; kind <= 6; kind++ {
		add("USER NUMBER "+slowWords()[kind]+" TICKET", func(n []int) impl.EvEvent {
			return asks(impl.MktReq{User: n[0], N: n[1], Kind: kind, Ticket: n[2]})
		})
	}
	for word, kind := range map[string]int{"tick": 2, "fall": 3} {
		add(word, func(n []int) impl.EvEvent { return impl.EvEvent{Kind: kind} })
	}
	for word, kind := range map[string]int{"send": 4, "hear": 5, "lose": 6, "twice": 7, "tell": 9} {
		add(word+" ANY", func(n []int) impl.EvEvent { return impl.EvEvent{Kind: kind, At: n[0]} })
	}
	add("show ANY ANY ANY", func(n []int) impl.EvEvent {
		return impl.EvEvent{Kind: 8, At: n[0], Ticket: n[1], Who: n[2]}
	})
	return list
}

// slowEvent is DskEvent by forms.
func slowEvent(all []form, line string) (impl.EvEvent, bool) {
	for _, f := range all {
		if found := f.pattern.FindStringSubmatch(line); found != nil {
			var numbers []int
			for _, text := range found[1:] {
				n, _ := strconv.Atoi(text)
				numbers = append(numbers, n)
			}
			return f.event(numbers), true
		}
	}
	return impl.EvEvent{}, false
}

// spaced is numbers, with a space ahead of each.
func spaced(numbers []int) string {
	return strings.TrimSuffix(" "+strings.Trim(fmt.Sprint(numbers), "[]"), " ")
}

// slowBoard is DskBoard of a world that is ok.
func slowBoard(w impl.WldWorld) []string {
	var board []string
	rows, _ := slowFold(w.Market.Log)
	deals := slowDeals(w.Market)
	for ticket, row := range rows {
		if row.Who == 0 {
			continue
		}
		line := fmt.Sprintf("ticket %d of %d face %d", ticket, row.Who, row.Face)
		line += map[bool]string{true: " used"}[row.Used]
		if d, there := deals[ticket]; there {
			line += fmt.Sprintf(" offered %d", d.Price)
			if d.Buyer > 0 {
				line += fmt.Sprintf(" held for %d until %d", d.Buyer, d.Due)
			}
		}
		board = append(board, line)
	}
	board = append(board, "purses"+spaced(w.Market.Purses))
	for at, g := range w.Gates {
		board = append(board, fmt.Sprintf("gate %d at %d through", at, g.Head.Size)+spaced(g.Done))
	}
	return board
}

// slowAnswers is the line of each answer, none of 0.
func slowAnswers() []string {
	return []string{"", "done", "may not", "not", "cap", "money", "full", "old"}
}

// slowRun is DskRun of purses of which there is a world, and not too many lines: what is told of each line, and the world behind all.
func slowRun(purses []int, lines []string) ([]string, impl.WldWorld) {
	var said []string
	w, all := impl.WldNew(purses), forms()
	for i, line := range lines {
		e, ok := slowEvent(all, line)
		if !ok {
			said = append(said, fmt.Sprintf("line %d", i+1))
			continue
		}
		after, answer := slowStep(w, e)
		if w = after; answer > 0 {
			said = append(said, slowAnswers()[answer])
		}
	}
	return said, w
}

// told is lines of what may happen one behind the other, in a world that begins with purses; some of them are none.
func (r *row) told(purses []int, n int) []string {
	lines := make([]string, n)
	w, odd := impl.WldNew(purses), wrongTexts()
	for i := range lines {
		e := r.event(w)
		lines[i] = slowLine(e)
		w, _ = impl.WldStep(w, e)
		if r.below(25) == 0 {
			lines[i] = odd[r.below(len(odd))]
		}
	}
	return lines
}

// someLines are one line of each kind that is one, with small numbers and great ones.
func someLines() []string {
	lines := []string{"tick", "fall", "show 0 0 0", "show 1 2 3", "show 99999 99999 99999", "show 0 7 10"}
	for _, word := range []string{"send", "hear", "lose", "twice", "tell"} {
		for _, n := range []int{0, 1, 9, 10, 305, 99999} {
			lines = append(lines, fmt.Sprintf("%s %d", word, n))
		}
	}
	for _, q := range someRequests() {
		lines = append(lines, slowReqText(q))
	}
	return lines
}

// someRequests are requests of each kind that are ok, at both ends of all bounds.
func someRequests() []impl.MktReq {
	list := plainRequests()
	for kind := 1; kind <= 6; kind++ {
		least := impl.MktReq{User: 1, N: 1, Kind: kind}
		most := impl.MktReq{User: impl.UsrMax, N: impl.MktMaxN, Kind: kind, Ticket: impl.TikMax - 1}
		switch kind {
		case impl.ReqIssue:
			least.Who, least.Price, most.Who, most.Price = 1, 1, impl.UsrMax, impl.FaceMax
		case impl.ReqOffer:
			least.Price, most.Price = 1, 999
		}
		list = append(list, least, most)
	}
	return slices.Clip(list)
}

// wrongTexts are texts that are neither a request nor anything else that happens.
func wrongTexts() []string {
	return []string{
		"", " ", "  ", "\n", "x", "0", "1", "1 1", "1 1 1", "1 1 1 1", "-", "\x00", "\xff",
		"issue", "offer", "drop", "fund", "settle", "enter", "send", "hear", "lose", "twice", "tell", "show", "done", "not", "gate", "purses", "line 1", "long",
		"1 1 drop", "1 drop 1", "drop 1", "drop 1 1 1", "1 1 1 drop", "1 1 drop 1 1", "1 1 1 drop 1", "1 1 offer 0", "1 1 offer 0 1 1", "1 1 issue 0", "1 1 issue 0 2", "1 1 issue 0 2 3 4", "1 1 issue 0 2 3 issue",
		"1 1 fund 0 fund", "fund 1 1 fund 0", "1 fund 1 fund 0", "1 1 fund fund", "1 1 drop fund 0", "1 1 tick", "1 1 tick 0", "1 1 send 0", "1 1 show 0 0 2", "tick tick", "tick 0", "0 tick", "fall fall", "fall 1", "1 fall",
		"1 1 close 0", "1 1 Drop 0", "1 1 DROP 0", "1 1 dro 0", "1 1 drops 0", "1 1 pass 0 2", "issue 0 2 40", "Tick", "TICK", "ticks", "tic", "fell", "tick.", "sendt 0", "ask 0", "take 0",
		"0 1 drop 0", "6 1 drop 0", "1 0 drop 0", "1 100000 drop 0", "1 1 drop 8", "1 1 offer 0 0", "1 1 offer 0 1000", "1 1 issue 0 0 1", "1 1 issue 0 6 1", "1 1 issue 0 1 0", "1 1 issue 0 1 51", "1 1 issue 8 1 50", "6 1 issue 0 1 1",
		"-1 1 drop 0", "+1 1 drop 0", "1 -1 drop 0", "1 +1 drop 0", "1 1 drop -0", "1 1 drop +0", "1 1 drop -1", "1 1 offer 0 -5", "1 1 offer 0 +5", "send -1", "send +1", "send -0", "hear -1", "show 0 -1 2", "show 0 +1 2", "show -0 0 2", "tell - 1", "send 1-",
		"01 1 drop 0", "1 01 drop 0", "1 1 drop 00", "1 1 drop 07", "1 1 offer 0 012", "1 1 issue 0 02 3", "1 1 issue 0 2 03", "send 00", "send 01", "hear 00000", "lose 00001", "show 0 01 2", "show 00 1 2", "show 0 1 02",
		"send 100000", "send 123456", "hear 999999", "lose 1000000", "tell 4294967296", "twice 4294967297", "send 18446744073709551616", "send 9223372036854775807", "send 9223372036854775808", "show 0 100000 0", "show 100000 0 0", "show 0 0 100000", "1 123456 drop 0", "1 4294967297 drop 0", "1 18446744073709551617 drop 0",
		"send", "send ", "send 1 1", "send  1", " send 1", "send 1 ", "send\t1", "send 1\n", "send 1\r", "\nsend 1", "send x", "send one", "send 1.0", "send 1e1", "send 0x1", "send 1_0", "send 1,", "send \u0661", "send \uff11", "send\u00a01", "send,1", "send1",
		"show 0 1", "show 0 1 2 3", "show 0  1 2", "show 0 1  2", "show  0 1 2", "show 0 1 ", "show 0 1 x", "show 0 1 show", " tick", "tick ", " tick ", "\ttick", "tick\x00", "\ufefftick",
		" 1 1 drop 0", "1  1 drop 0", "1 1  drop 0", "1 1 drop  0", "1 1 drop 0 ", "1 1 drop 0\n", "1\t1 drop 0", "1 1\ndrop 0", "1 1 drop\t0", "1,1,drop,0", "1 1 drop0", "11 drop 0", "1 1drop 0", "1 1 drop \u0660",
	}
}
