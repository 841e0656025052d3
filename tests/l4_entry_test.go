package tests

import (
	"fmt"
	"math"
	"slices"
	"strings"
	"testing"

	"loop.example/stileway/impl"
)

// slowEntOk is EntOk, by the least and the greatest price of each kind.
func slowEntOk(e impl.EntEntry) bool {
	prices, ok := map[int][2]int{1: {1, 50}, 2: {1, 60}, 3: {0, 0}}[e.Kind]
	return ok && prices[0] <= e.Price && e.Price <= prices[1] && slices.Contains([]int{0, 1, 2, 3, 4, 5, 6, 7}, e.Ticket) && slices.Contains([]int{1, 2, 3, 4, 5}, e.Who)
}

// slowText is EntText of an entry that is ok.
func slowText(e impl.EntEntry) string {
	if e.Kind == impl.EntEnter {
		return fmt.Sprintf("enter %d %d", e.Ticket, e.Who)
	}
	return fmt.Sprintf("%s %d %d %d", map[int]string{1: "issue", 2: "pass"}[e.Kind], e.Ticket, e.Who, e.Price)
}

// far are numbers far off all bounds.
func far() []int {
	return []int{math.MinInt, math.MinInt32, -1000, 256, 1000, math.MaxInt32, 1 << 32, 1<<32 + 1, math.MaxInt}
}

// everyEntry calls f with all entries that are ok, and with those around and far off them.
func everyEntry(f func(e impl.EntEntry)) {
	for kind := -1; kind <= 5; kind++ {
		for ticket := -1; ticket <= impl.TikMax+1; ticket++ {
			for who := -1; who <= impl.UsrMax+1; who++ {
				for price := -2; price <= 63; price++ {
					f(impl.EntEntry{Kind: kind, Ticket: ticket, Who: who, Price: price})
				}
			}
		}
	}
	for _, n := range far() {
		for kind := 1; kind <= 3; kind++ {
			for _, price := range []int{0, 1} {
				f(impl.EntEntry{Kind: n, Ticket: 3, Who: 2, Price: price})
				f(impl.EntEntry{Kind: kind, Ticket: n, Who: 2, Price: price})
				f(impl.EntEntry{Kind: kind, Ticket: 3, Who: n, Price: price})
			}
			f(impl.EntEntry{Kind: kind, Ticket: 3, Who: 2, Price: n})
		}
	}
}

// everyText is the text of each entry that is ok.
func everyText(t *testing.T) map[string]impl.EntEntry {
	t.Helper()
	texts := map[string]impl.EntEntry{}
	everyEntry(func(e impl.EntEntry) {
		if slowEntOk(e) {
			texts[slowText(e)] = e
		}
	})
	if len(texts) != 8*5*(50+60+1) {
		t.Fatalf("there are %d texts", len(texts))
	}
	return texts
}

// entries is n entries of any kind, some of them ok, some about no ticket.
func (r *row) entries(n int) []impl.EntEntry {
	list := make([]impl.EntEntry, n)
	for i := range list {
		list[i] = impl.EntEntry{Kind: r.below(5), Ticket: r.below(impl.TikMax+2) - 1, Who: r.below(impl.UsrMax + 2), Price: r.below(63)}
	}
	return list
}

// Promise 30.
func TestEntCap(t *testing.T) {
	for face, want := range map[int]int{1: 1, 2: 2, 3: 3, 4: 4, 5: 6, 6: 7, 9: 10, 10: 12, 14: 16, 15: 18, 40: 48, 49: 58, impl.FaceMax: 60} {
		if got := impl.EntCap(face); got != want {
			t.Errorf("EntCap(%d): got %d, want %d", face, got, want)
		}
	}
	for face := 1; face <= impl.FaceMax; face++ {
		got := impl.EntCap(face)
		if 5*got > 6*face || 5*(got+1) <= 6*face {
			t.Errorf("EntCap(%d): %d is not what is whole of a fifth more", face, got)
		}
		if got <= impl.EntCap(face-1) {
			t.Errorf("EntCap(%d): %d, and of one less %d", face, got, impl.EntCap(face-1))
		}
	}
}

func TestEntCapWrong(t *testing.T) {
	for _, face := range append(far(), 0, -1, -5, impl.FaceMax+1, impl.FaceMax+5) {
		if got := impl.EntCap(face); got != 0 {
			t.Errorf("EntCap(%d): got %d, want 0", face, got)
		}
	}
}

func TestEntOk(t *testing.T) {
	everyEntry(func(e impl.EntEntry) {
		if got := impl.EntOk(e); got != slowEntOk(e) {
			t.Fatalf("EntOk(%+v) is %v", e, got)
		}
	})
}

func TestEntOkEdges(t *testing.T) {
	for _, c := range []struct {
		e    impl.EntEntry
		want bool
	}{
		{impl.EntEntry{}, false},
		{impl.EntEntry{Kind: impl.EntIssue, Ticket: 0, Who: 1, Price: 1}, true},
		{impl.EntEntry{Kind: impl.EntIssue, Ticket: 0, Who: 1, Price: 0}, false},
		{impl.EntEntry{Kind: impl.EntIssue, Ticket: impl.TikMax - 1, Who: impl.UsrMax, Price: impl.FaceMax}, true},
		{impl.EntEntry{Kind: impl.EntIssue, Ticket: impl.TikMax - 1, Who: impl.UsrMax, Price: impl.FaceMax + 1}, false},
		{impl.EntEntry{Kind: impl.EntIssue, Ticket: impl.TikMax, Who: impl.UsrMax, Price: impl.FaceMax}, false},
		{impl.EntEntry{Kind: impl.EntIssue, Ticket: 0, Who: impl.UsrMax + 1, Price: 1}, false},
		{impl.EntEntry{Kind: impl.EntPass, Ticket: 0, Who: 1, Price: 60}, true},
		{impl.EntEntry{Kind: impl.EntPass, Ticket: 0, Who: 1, Price: 61}, false},
		{impl.EntEntry{Kind: impl.EntPass, Ticket: 0, Who: 1, Price: 0}, false},
		{impl.EntEntry{Kind: impl.EntPass, Ticket: -1, Who: 1, Price: 60}, false},
		{impl.EntEntry{Kind: impl.EntEnter, Ticket: 0, Who: 1}, true},
		{impl.EntEntry{Kind: impl.EntEnter, Ticket: 0, Who: 1, Price: 1}, false},
		{impl.EntEntry{Kind: impl.EntEnter, Ticket: 0, Who: 1, Price: -1}, false},
		{impl.EntEntry{Kind: impl.EntEnter, Ticket: 0, Who: 0}, false},
		{impl.EntEntry{Kind: impl.EntEnter + 1, Ticket: 0, Who: 1}, false},
		{impl.EntEntry{Kind: 0, Ticket: 0, Who: 1, Price: 1}, false},
	} {
		if got := impl.EntOk(c.e); got != c.want {
			t.Errorf("EntOk(%+v) is %v", c.e, got)
		}
	}
}

// The numbers were worked out from the document, apart from the program.
func TestEntLeafKnown(t *testing.T) {
	for e, want := range map[impl.EntEntry]int{
		{Kind: 1, Ticket: 0, Who: 2, Price: 40}:                     15719,
		{Kind: 2, Ticket: 0, Who: 3, Price: 48}:                     37673,
		{Kind: 3, Ticket: 7, Who: 5, Price: 0}:                      63169,
		{Kind: 1, Ticket: 3, Who: 2, Price: 10}:                     37474,
		{}:                                                          62267,
		{Kind: -1, Ticket: -2, Who: -3, Price: -4}:                  55100,
		{Kind: 9, Ticket: math.MaxInt, Who: math.MinInt, Price: 77}: 13953,
	} {
		if got := impl.EntLeaf(e); got != want {
			t.Errorf("EntLeaf(%+v): got %d, want %d", e, got, want)
		}
	}
}

// Promise 32.
func TestEntLeaves(t *testing.T) {
	r := &row{50}
	for n := range 2 * impl.TreMax {
		list := r.entries(n)
		var want []int
		for _, e := range list {
			want = append(want, impl.MixLeaf([]int{e.Kind, e.Ticket, e.Who, e.Price}))
		}
		sameList(t, "leaves", impl.EntLeaves(list), want)
		for i, e := range list {
			if got := impl.EntLeaf(e); got != want[i] {
				t.Fatalf("EntLeaf(%+v): got %d, want %d", e, got, want[i])
			}
		}
	}
	sameList(t, "of none", impl.EntLeaves(nil), nil)
	sameList(t, "of none", impl.EntLeaves([]impl.EntEntry{}), nil)
	everyEntry(func(e impl.EntEntry) {
		other := e
		other.Price = 77
		if slowEntOk(e) && impl.EntLeaf(e) == impl.EntLeaf(other) {
			t.Fatalf("%+v has the same leaf with the price 77", e)
		}
	})
}

// Promise 33.
func TestEntAbout(t *testing.T) {
	r := &row{51}
	for n := range 2 * impl.TreMax {
		list := r.entries(n)
		together := map[int]bool{}
		for i := range list {
			list[i].Price = i
		}
		for ticket := range impl.TikMax {
			about := impl.EntAbout(list, ticket)
			for i, e := range about {
				if e.Ticket != ticket || e != list[e.Price] || i > 0 && e.Price <= about[i-1].Price {
					t.Fatalf("about %d of %v are %v", ticket, list, about)
				}
				together[e.Price] = true
			}
		}
		for i, e := range list {
			if there := e.Ticket >= 0 && e.Ticket < impl.TikMax; there != together[i] {
				t.Fatalf("the %d of %v is about a ticket: %v; among those about one: %v", i, list, there, together[i])
			}
		}
	}
}

// A ticket that there is not is told of by no entry that is ok.
func TestEntAboutEdges(t *testing.T) {
	list := []impl.EntEntry{{Kind: 1, Ticket: 0, Who: 1, Price: 1}, {Kind: 1, Ticket: 7, Who: 1, Price: 1}, {Kind: 2, Ticket: 0, Who: 2, Price: 1}, {Kind: 9, Ticket: 7}}
	sameList(t, "the first ticket", impl.EntAbout(list, 0), []impl.EntEntry{list[0], list[2]})
	sameList(t, "the last ticket", impl.EntAbout(list, impl.TikMax-1), []impl.EntEntry{list[1], list[3]})
	sameList(t, "a ticket of no entry", impl.EntAbout(list, 1), nil)
	for _, ticket := range append(far(), -1, impl.TikMax) {
		sameList(t, "no ticket", impl.EntAbout(list, ticket), nil)
	}
	sameList(t, "no entries", impl.EntAbout(nil, 0), nil)
}

// Promise 31.
func TestEntTextAndEntRead(t *testing.T) {
	everyEntry(func(e impl.EntEntry) {
		text := impl.EntText(e)
		if !slowEntOk(e) {
			if text != "" {
				t.Fatalf("EntText(%+v) is %q", e, text)
			}
			return
		}
		if text != slowText(e) {
			t.Fatalf("EntText(%+v) is %q", e, text)
		}
		if got, ok := impl.EntRead(text); !ok || got != e {
			t.Fatalf("EntRead(%q) is %+v, %v", text, got, ok)
		}
	})
}

func TestEntTextKnown(t *testing.T) {
	for e, want := range map[impl.EntEntry]string{
		{Kind: impl.EntIssue, Ticket: 0, Who: 2, Price: 40}:                       "issue 0 2 40",
		{Kind: impl.EntPass, Ticket: 0, Who: 3, Price: 48}:                        "pass 0 3 48",
		{Kind: impl.EntEnter, Ticket: impl.TikMax - 1, Who: impl.UsrMax}:          "enter 7 5",
		{Kind: impl.EntPass, Ticket: 7, Who: 1, Price: impl.EntCap(impl.FaceMax)}: "pass 7 1 60",
		{Kind: impl.EntEnter, Ticket: 7, Who: 5, Price: 1}:                        "",
		{Kind: 4, Ticket: 7, Who: 5}:                                              "",
		{}:                                                                        "",
	} {
		if got := impl.EntText(e); got != want {
			t.Errorf("EntText(%+v): got %q, want %q", e, got, want)
		}
	}
}

// reads asks that a text is read as the entry whose text it is, or not at all.
func reads(t *testing.T, texts map[string]impl.EntEntry, text string) {
	t.Helper()
	want, there := texts[text]
	got, ok := impl.EntRead(text)
	if ok != there || got != want {
		t.Fatalf("EntRead(%q): got %+v, %v, want %+v, %v", text, got, ok, want, there)
	}
	if ok && impl.EntText(got) != text {
		t.Fatalf("EntRead(%q) is %+v, whose text is %q", text, got, impl.EntText(got))
	}
}

// Promise 31, of texts with one byte more, less or turned.
func TestEntReadOfTextsNearby(t *testing.T) {
	texts := everyText(t)
	for text := range texts {
		for i := range len(text) + 1 {
			for _, b := range []string{" ", "0", "1", "9", "+", "-", "_", ".", ",", "i", "E", "\t", "\n", "\x00", "\xff", "\u00a0", "\u0663", "\uff13"} {
				reads(t, texts, text[:i]+b+text[i:])
				if i < len(text) {
					reads(t, texts, text[:i]+b+text[i+1:])
				}
			}
			reads(t, texts, text[:i])
			reads(t, texts, text[i:])
			if i < len(text) {
				reads(t, texts, text[:i]+text[i+1:])
			}
		}
	}
}

func TestEntReadWrong(t *testing.T) {
	texts := everyText(t)
	nought := strings.Repeat("0", 48)
	for _, text := range []string{
		"", " ", "issue", "issue ", "pass", "enter", "enter 3", "issue 3 2", "pass 3 2",
		"issue 3 2 0", "issue 3 2 51", "pass 3 2 0", "pass 3 2 61", "enter 3 2 0", "enter 3 2 5", "issue 3 0 5", "issue 3 6 5", "issue 8 2 5", "issue -1 2 5",
		"issue 03 2 5", "issue 3 02 5", "issue 3 2 05", "enter 00 1", "enter 0 01", "enter -0 1", "issue +3 2 5", "issue 3 2 +5", "issue 3 2 5.0", "issue 3 2 5e0", "issue 0x3 2 5", "issue 3 2 1_0",
		" issue 3 2 5", "issue  3 2 5", "issue 3  2 5", "issue 3 2  5", "issue 3 2 5 ", "issue\t3 2 5", "issue 3 2 5\n", "issue 3 2 5\r",
		"issue 3 2 5 5", "issue 3 2 5 x", "issue 3 2 5 issue", "pass 3 2 5 1", "enter 3 2 1 1", "issue issue 3 2 5", "3 2 5", "2 1 issue 3 2 5",
		"Issue 3 2 5", "ISSUE 3 2 5", "issued 3 2 5", "issu 3 2 5", "offer 3 2 5", "1 3 2 5", "issue 3 2 x", "issue x 2 5", "enter x 1", "enter 1 x",
		"issue 18446744073709551616 2 5", "issue 3 2 18446744073709551621", "issue 4294967296 2 5", "issue 3 2 4294967301", "enter 256 1", "enter -18446744073709551616 1", "issue 99999999999999999999999999999999 2 5",
		"issue \u0663 2 5", "issue 3 2 \uff15", "issue 3\u00a02 5", "issue 3 2 5\x00", "\ufeffissue 3 2 5", "issue 3 2 \xff", "\xff\xfe", "enter,3,2",
	} {
		if _, there := texts[text]; there {
			t.Fatalf("%q is a text", text)
		}
		reads(t, texts, text)
	}
	for size, texts60 := range map[int][]string{
		60: {"issue 0 1 " + nought + "05", "enter 0 " + nought + "0001", "enter 0" + strings.Repeat(" ", 52) + "1", strings.Repeat("a", 60), strings.Repeat(" ", 60)},
		61: {"issue 0 1 " + nought + "005", "enter 0 1" + strings.Repeat(" ", 52), "enter" + strings.Repeat(" ", 53) + "0 1", strings.Repeat("9", 61), strings.Repeat("enter 0 1 ", 6) + "1"},
	} {
		for _, text := range texts60 {
			if len(text) != size {
				t.Fatalf("%q has %d bytes", text, len(text))
			}
			reads(t, texts, text)
		}
	}
	reads(t, texts, "enter 0 1"+strings.Repeat(" 1", 1000000))
}
