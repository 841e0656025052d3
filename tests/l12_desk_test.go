package tests

import (
	"slices"
	"strings"
	"testing"

	"loop.example/stileway/impl"
)

// says asks what DskEvent and ReqRead answer of a line.
func says(t *testing.T, all []form, line string) bool {
	t.Helper()
	want, there := slowEvent(all, line)
	got, ok := impl.DskEvent(line)
	if ok != there || got != want {
		t.Fatalf("DskEvent(%q): got %+v, %v, want %+v, %v", line, got, ok, want, there)
	}
	q, ok := impl.ReqRead(line)
	if ok != (want.Kind == impl.EvAsk) || q != want.Req {
		t.Fatalf("ReqRead(%q): got %+v, %v, want %+v", line, q, ok, want.Req)
	}
	if ok && impl.ReqText(q) != line {
		t.Fatalf("ReqRead(%q) is %+v, whose text is %q", line, q, impl.ReqText(q))
	}
	return there
}

// none asks that a line is none, and no request either.
func none(t *testing.T, what string, all []form, line string) {
	t.Helper()
	if says(t, all, line) {
		t.Fatalf("%s: %q is one", what, line)
	}
}

func TestDskLimits(t *testing.T) {
	if impl.DskMaxLines != 150 {
		t.Fatalf("DskMaxLines is %d", impl.DskMaxLines)
	}
}

// Promise 77, of requests that are ok and of such that are not.
func TestReqTextAndReqRead(t *testing.T) {
	texts := map[string]bool{}
	everyRequest(func(q impl.MktReq) {
		text := impl.ReqText(q)
		if !slowReqOk(q) {
			if text != "" {
				t.Fatalf("ReqText(%+v) is %q", q, text)
			}
			return
		}
		if text != slowReqText(q) {
			t.Fatalf("ReqText(%+v) is %q", q, text)
		}
		if got, ok := impl.ReqRead(text); !ok || got != q {
			t.Fatalf("ReqRead(%q) is %+v, %v", text, got, ok)
		}
		texts[text] = true
	})
	if len(texts) < 300 {
		t.Fatalf("there are only %d texts", len(texts))
	}
}

func TestReqTextKnown(t *testing.T) {
	for q, want := range map[impl.MktReq]string{
		{User: 1, N: 1, Kind: impl.ReqIssue, Ticket: 0, Who: 2, Price: 40}: "1 1 issue 0 2 40",
		{User: 2, N: 3, Kind: impl.ReqOffer, Ticket: 4, Price: 48}:         "2 3 offer 4 48",
		{User: 5, N: 99999, Kind: impl.ReqOffer, Ticket: 7, Price: 999}:    "5 99999 offer 7 999",
		{User: 2, N: 2, Kind: impl.ReqDrop, Ticket: 1}:                     "2 2 drop 1",
		{User: 3, N: 1, Kind: impl.ReqFund, Ticket: 4}:                     "3 1 fund 4",
		{User: 2, N: 10, Kind: impl.ReqSettle, Ticket: 0}:                  "2 10 settle 0",
		{User: 4, N: 305, Kind: impl.ReqEnter, Ticket: 6}:                  "4 305 enter 6",
		{}: "",
		{User: 3, N: 1, Kind: impl.ReqFund, Ticket: 4, Price: 1}:  "",
		{User: 3, N: 1, Kind: impl.ReqFund, Ticket: 4, Who: 1}:    "",
		{User: 3, N: 1, Kind: impl.ReqOffer, Ticket: 4}:           "",
		{User: 3, N: 1, Kind: impl.ReqIssue, Ticket: 4, Price: 5}: "",
		{User: 3, N: 0, Kind: impl.ReqFund, Ticket: 4}:            "",
		{User: 3, N: 1, Kind: 0, Ticket: 4}:                       "",
		{User: 3, N: 1, Kind: 7, Ticket: 4}:                       "",
	} {
		if got := impl.ReqText(q); got != want {
			t.Errorf("ReqText(%+v): got %q, want %q", q, got, want)
		}
		if got, ok := impl.ReqRead(want); ok != (want != "") || ok && got != q || !ok && got != (impl.MktReq{}) {
			t.Errorf("ReqRead(%q): got %+v, %v", want, got, ok)
		}
	}
}

func TestDskEventKnown(t *testing.T) {
	for line, want := range map[string]impl.EvEvent{
		"1 1 issue 0 2 40":    {Kind: impl.EvAsk, Req: impl.MktReq{User: 1, N: 1, Kind: impl.ReqIssue, Ticket: 0, Who: 2, Price: 40}},
		"2 2 offer 3 48":      {Kind: impl.EvAsk, Req: impl.MktReq{User: 2, N: 2, Kind: impl.ReqOffer, Ticket: 3, Price: 48}},
		"4 3 drop 1":          {Kind: impl.EvAsk, Req: impl.MktReq{User: 4, N: 3, Kind: impl.ReqDrop, Ticket: 1}},
		"3 1 fund 0":          {Kind: impl.EvAsk, Req: impl.MktReq{User: 3, N: 1, Kind: impl.ReqFund}},
		"2 99999 settle 7":    {Kind: impl.EvAsk, Req: impl.MktReq{User: 2, N: 99999, Kind: impl.ReqSettle, Ticket: 7}},
		"5 12 enter 6":        {Kind: impl.EvAsk, Req: impl.MktReq{User: 5, N: 12, Kind: impl.ReqEnter, Ticket: 6}},
		"tick":                {Kind: impl.EvTick},
		"fall":                {Kind: impl.EvFall},
		"send 0":              {Kind: impl.EvSend},
		"hear 5":              {Kind: impl.EvHear, At: 5},
		"lose 2":              {Kind: impl.EvLose, At: 2},
		"twice 1":             {Kind: impl.EvTwice, At: 1},
		"tell 1":              {Kind: impl.EvTell, At: 1},
		"show 1 4 2":          {Kind: impl.EvShow, At: 1, Ticket: 4, Who: 2},
		"send 99999":          {Kind: impl.EvSend, At: 99999}, // a line is one, whether there is such a gate or not
		"show 10 99999 10000": {Kind: impl.EvShow, At: 10, Ticket: 99999, Who: 10000},
		"show 0 0 0":          {Kind: impl.EvShow},
	} {
		if got, ok := impl.DskEvent(line); !ok || got != want {
			t.Errorf("DskEvent(%q): got %+v, %v, want %+v", line, got, ok, want)
		}
	}
}

// Each number of at most five digits is one in a line, and none above.
func TestDskEventNumbers(t *testing.T) {
	all := forms()
	for n := 0; n <= 100100; n += 1 + n/200 {
		for _, e := range []impl.EvEvent{at(impl.EvHear, n), show(n, 0, 0), show(0, n, 0), show(0, 0, n), {Kind: impl.EvAsk, Req: impl.MktReq{User: 2, N: n, Kind: impl.ReqEnter}}} {
			line, want := slowLine(e), n <= 99999 && (n > 0 || e.Kind != impl.EvAsk)
			if got, ok := impl.DskEvent(line); ok != want || ok && got != e {
				t.Fatalf("DskEvent(%q): got %+v, %v", line, got, ok)
			}
		}
	}
	for n := 99990; n <= 100010; n++ {
		if there := says(t, all, slowLine(at(impl.EvSend, n))); there != (n <= 99999) {
			t.Fatalf("the number %d: %v", n, there)
		}
	}
}

// Promise 78, of each line that is one, and of words of any kind.
func TestDskEventWithAWordMore(t *testing.T) {
	all := forms()
	words := []string{"", "0", "1", "2", "5", "9", "10", "48", "99999", "-1", "00", "x", "issue", "offer", "drop", "tick", "fall", "send", "show", "done", "\n", "\x00", " ", "1 1"}
	for _, line := range someLines() {
		if !says(t, all, line) {
			t.Fatalf("%q is none", line)
		}
		for _, word := range words {
			none(t, "a word more behind", all, line+" "+word)
			none(t, "a word more ahead", all, word+" "+line)
		}
		for place, fields := 1, strings.Fields(line); place < len(fields); place++ {
			for _, word := range words {
				none(t, "a word more between", all, strings.Join(slices.Insert(slices.Clone(fields), place, word), " "))
			}
		}
	}
}

func TestDskEventWithAWordLess(t *testing.T) {
	all := forms()
	for _, line := range someLines() {
		fields := strings.Fields(line)
		for place := range fields {
			none(t, "a word less", all, strings.Join(slices.Delete(slices.Clone(fields), place, place+1), " "))
		}
	}
}

func TestDskEventWrong(t *testing.T) {
	all := forms()
	for _, text := range wrongTexts() {
		none(t, "wrong", all, text)
	}
	nought := strings.Repeat("0", 49)
	for size, texts := range map[int][]string{
		60: {"1 1 drop " + nought + "00", "1 " + nought + "01 drop 0", "send " + nought + "000001", "show 0 0" + strings.Repeat(" ", 51) + "2", strings.Repeat("1 ", 30), strings.Repeat(" ", 60), strings.Repeat("tick ", 12)},
		61: {"1 1 drop " + nought + "000", "1 " + nought + "001 drop 0", "send " + nought + "0000001", "tick" + strings.Repeat(" ", 57), strings.Repeat("a", 61), strings.Repeat("tick ", 12) + "1"},
	} {
		for _, text := range texts {
			if len(text) != size {
				t.Fatalf("%q has %d bytes", text, len(text))
			}
			none(t, "long", all, text)
		}
	}
	for _, line := range someLines() {
		none(t, "very long", all, line+strings.Repeat(" 1", 500000))
		none(t, "very long, of spaces", all, line+strings.Repeat(" ", 500000))
	}
}

// Promise 77, and lines, of texts with one byte more, less or turned.
func TestDskEventOfTextsNearby(t *testing.T) {
	all, ones := forms(), 0
	for _, line := range someLines() {
		for i := range len(line) + 1 {
			for _, b := range []string{" ", "0", "1", "5", "9", "+", "-", "_", ".", "t", "E", "\t", "\n", "\x00", "\xff", "\u0663"} {
				for _, end := range []int{i, min(i+1, len(line))} {
					if says(t, all, line[:i]+b+line[end:]) {
						ones++
					}
				}
			}
			says(t, all, line[:i])
			says(t, all, line[i:])
			says(t, all, line[:i]+line[min(i+1, len(line)):])
		}
	}
	if ones < 200 {
		t.Fatalf("only %d of these are ones", ones)
	}
}

// everyPhrase calls f with all texts of at most three words, and some of more; the words are those that lines are made of, and some others.
func everyPhrase(f func(text string)) {
	words := []string{"0", "1", "5", "6", "8", "51", "99999", "100000", "01", "-1", "", "x", "issue", "offer", "drop", "enter", "tick", "send", "tell", "show"}
	for _, a := range words {
		f(a)
		for _, b := range words {
			f(a + " " + b)
			for _, c := range words {
				f(a + " " + b + " " + c)
			}
		}
	}
	r := &row{180}
	for range 60000 {
		phrase := []string{words[r.below(7)], words[r.below(7)], words[12+r.below(8)], words[r.below(8)], words[r.below(6)], words[r.below(7)], words[r.below(20)]}
		if r.below(3) == 0 {
			phrase[r.below(7)] = words[r.below(len(words))]
		}
		f(strings.Join(phrase[r.below(3)/2*2:4+r.below(4)], " "))
	}
}

func TestDskEventOfPhrases(t *testing.T) {
	all, ones := forms(), map[int]int{}
	everyPhrase(func(text string) {
		if says(t, all, text) {
			e, _ := slowEvent(all, text)
			ones[100*e.Kind+e.Req.Kind]++
		}
	})
	for _, kind := range []int{101, 102, 103, 106, 200, 400, 800, 900} {
		if ones[kind] < 1 || kind > 100 && kind < 200 && ones[kind] < 10 {
			t.Fatalf("there were %v", ones)
		}
	}
}
