package tests

import (
	"math"
	"slices"
	"testing"

	"loop.example/stileway/impl"
)

// nobody is how all tickets stand at the beginning.
func nobody() []impl.OwnRow {
	return make([]impl.OwnRow, impl.TikMax)
}

// everyRow is each row that is ok.
func everyRow() []impl.OwnRow {
	rows := []impl.OwnRow{{}}
	for who := 1; who <= 5; who++ {
		for face := 1; face <= 50; face++ {
			rows = append(rows, impl.OwnRow{Who: who, Face: face}, impl.OwnRow{Who: who, Face: face, Used: true})
		}
	}
	return rows
}

// wrongRows are rows that are not ok.
func wrongRows() []impl.OwnRow {
	rows := []impl.OwnRow{
		{Face: 1}, {Used: true}, {Face: 50, Used: true}, {Face: -1}, {Face: 51},
		{Who: -1, Face: 5}, {Who: -1}, {Who: impl.UsrMax + 1, Face: 5}, {Who: impl.UsrMax + 1},
		{Who: 1}, {Who: 1, Used: true}, {Who: 5, Face: impl.FaceMax + 1}, {Who: 1, Face: -1}, {Who: 2, Face: -1, Used: true},
	}
	for _, n := range far() {
		rows = append(rows, impl.OwnRow{Who: n, Face: 5}, impl.OwnRow{Who: 1, Face: n}, impl.OwnRow{Face: n})
	}
	return rows
}

// rows is n rows that are ok, one in three of them nobody's.
func (r *row) rows(n int) []impl.OwnRow {
	rows := make([]impl.OwnRow, n)
	for i := range rows {
		if r.below(3) > 0 {
			rows[i] = impl.OwnRow{Who: 1 + r.below(impl.UsrMax), Face: 1 + r.below(impl.FaceMax), Used: r.below(2) == 0}
		}
	}
	return rows
}

// anyRows is n rows of any kind, few of them ok.
func (r *row) anyRows(n int) []impl.OwnRow {
	rows := make([]impl.OwnRow, n)
	for i := range rows {
		rows[i] = impl.OwnRow{Who: r.below(9) - 2, Face: r.below(54) - 1, Used: r.below(2) == 0}
	}
	return rows
}

// slowFits is OwnFits of the row of an entry's ticket, which is ok.
func slowFits(r impl.OwnRow, e impl.EntEntry) bool {
	if !slowEntOk(e) {
		return false
	}
	free, own := r == impl.OwnRow{}, r.Who == e.Who
	switch e.Kind {
	case impl.EntIssue:
		return free
	case impl.EntPass:
		return !free && !own && !r.Used && 5*e.Price <= 6*r.Face
	}
	return own && !r.Used
}

// slowStory is how a ticket stands, seen from the entries about it, each held against the one ahead of it; false, if one of them may not follow.
func slowStory(story []impl.EntEntry) (impl.OwnRow, bool) {
	if len(story) == 0 {
		return impl.OwnRow{}, true
	}
	first, last := story[0], story[len(story)-1]
	for i, e := range story {
		if !slowEntOk(e) || (i == 0) != (e.Kind == impl.EntIssue) {
			return impl.OwnRow{}, false
		}
		if i == 0 {
			continue
		}
		ahead := story[i-1]
		passed := e.Kind == impl.EntPass && e.Who != ahead.Who && 5*e.Price <= 6*first.Price
		entered := e.Kind == impl.EntEnter && e.Who == ahead.Who
		if ahead.Kind == impl.EntEnter || !passed && !entered {
			return impl.OwnRow{}, false
		}
	}
	return impl.OwnRow{Who: last.Who, Face: first.Price, Used: last.Kind == impl.EntEnter}, true
}

// slowFold is OwnFold, a ticket behind the other instead of an entry behind the other.
func slowFold(list []impl.EntEntry) ([]impl.OwnRow, bool) {
	rows, told := nobody(), 0
	for ticket := range rows {
		var story []impl.EntEntry
		for _, e := range list {
			if e.Ticket == ticket {
				story = append(story, e)
			}
		}
		row, ok := slowStory(story)
		if !ok {
			return nil, false
		}
		rows[ticket] = row
		told += len(story)
	}
	if told != len(list) || len(list) > 40 {
		return nil, false
	}
	return rows, true
}

// log is n entries that follow one another; the first ticket is never entered with, so that there is always something that may follow.
func (r *row) log(n int) []impl.EntEntry {
	rows, list := nobody(), make([]impl.EntEntry, 0, n)
	for len(list) < n {
		e := impl.EntEntry{Kind: 1 + r.below(3), Ticket: r.below(impl.TikMax), Who: 1 + r.below(impl.UsrMax), Price: 1 + r.below(60)}
		if e.Kind == impl.EntEnter {
			e.Price = 0
		}
		row := &rows[e.Ticket]
		if !slowFits(*row, e) || e.Kind == impl.EntEnter && (e.Ticket == 0 || r.below(3) > 0) {
			continue
		}
		switch e.Kind {
		case impl.EntIssue:
			*row = impl.OwnRow{Who: e.Who, Face: e.Price}
		case impl.EntPass:
			row.Who = e.Who
		default:
			row.Used = true
		}
		list = append(list, e)
	}
	return list
}

// slip is a log with one entry turned a little, left out, or there twice, so that it may not follow, often.
func (r *row) slip(list []impl.EntEntry) []impl.EntEntry {
	i := r.below(len(list))
	e := list[i]
	switch r.below(6) {
	case 0:
		return slices.Delete(slices.Clone(list), i, i+1)
	case 1:
		return slices.Insert(slices.Clone(list), i, e)
	case 2:
		e.Kind = r.below(5)
	case 3:
		e.Ticket = r.below(impl.TikMax+2) - 1
	case 4:
		e.Who = r.below(impl.UsrMax + 2)
	default:
		e.Price += 1 + r.below(5)
	}
	return with(list, i, e)
}

// everyLog calls f with logs of each length, and with such that have slipped.
func everyLog(seed uint64, f func(list []impl.EntEntry)) {
	r := &row{seed}
	f(nil)
	for range 5 {
		for n := 1; n <= impl.TreMax+2; n++ {
			list := r.log(n)
			f(list)
			for range 5 {
				f(r.slip(list))
			}
		}
	}
}

// leavesOf is the OwnLeaves of all tickets.
func leavesOf(rows []impl.OwnRow) []int {
	var leaves []int
	for ticket, row := range rows {
		leaves = append(leaves, impl.OwnLeaf(ticket, row))
	}
	return leaves
}

func TestOwnOk(t *testing.T) {
	r := &row{60}
	for range 50 {
		rows := r.rows(impl.TikMax)
		if !impl.OwnOk(rows) {
			t.Fatalf("%v are ok", rows)
		}
	}
	for i := range impl.TikMax {
		for _, row := range everyRow() {
			if rows := with(r.rows(impl.TikMax), i, row); !impl.OwnOk(rows) {
				t.Fatalf("%v are ok", rows)
			}
		}
		for _, wrong := range wrongRows() {
			if rows := with(nobody(), i, wrong); impl.OwnOk(rows) {
				t.Fatalf("%v are not ok", rows)
			}
		}
	}
	for n := range 20 {
		if got := impl.OwnOk(r.rows(n)); got != (n == impl.TikMax) {
			t.Fatalf("of %d rows: %v", n, got)
		}
	}
}

// Promise 34, of all rows of a ticket and all prices around its cap.
func TestOwnFitsJustWhatMayFollow(t *testing.T) {
	fit, chance := 0, &row{61}
	for i, row := range everyRow() {
		ticket := i % impl.TikMax
		rows := with(chance.rows(impl.TikMax), ticket, row)
		limit := 6 * row.Face / 5
		for kind := 0; kind <= 4; kind++ {
			for who := 0; who <= impl.UsrMax+1; who++ {
				for _, price := range []int{-1, 0, 1, limit - 1, limit, limit + 1, 50, 51, 60, 61} {
					e := impl.EntEntry{Kind: kind, Ticket: ticket, Who: who, Price: price}
					if got := impl.OwnFits(rows, e); got != slowFits(row, e) {
						t.Fatalf("%+v behind %+v: %v", e, row, got)
					} else if got {
						fit++
					}
				}
			}
		}
	}
	if fit < 3000 {
		t.Fatalf("only %d entries may follow", fit)
	}
}

// Promise 34, of an entry that may not follow as the document tells it.
func TestOwnFitsEdges(t *testing.T) {
	rows := nobody()
	rows[0] = impl.OwnRow{Who: 2, Face: 40}
	rows[1] = impl.OwnRow{Who: 2, Face: 40, Used: true}
	rows[7] = impl.OwnRow{Who: 5, Face: 4}
	for _, c := range []struct {
		what string
		e    impl.EntEntry
		want bool
	}{
		{"issued", impl.EntEntry{Kind: impl.EntIssue, Ticket: 2, Who: 1, Price: 50}, true},
		{"issued twice", impl.EntEntry{Kind: impl.EntIssue, Ticket: 0, Who: 1, Price: 40}, false},
		{"issued twice, to who has it", impl.EntEntry{Kind: impl.EntIssue, Ticket: 0, Who: 2, Price: 40}, false},
		{"issued behind an enter", impl.EntEntry{Kind: impl.EntIssue, Ticket: 1, Who: 2, Price: 40}, false},
		{"issued for nothing", impl.EntEntry{Kind: impl.EntIssue, Ticket: 2, Who: 1}, false},
		{"passed on at the cap", impl.EntEntry{Kind: impl.EntPass, Ticket: 0, Who: 1, Price: 48}, true},
		{"passed on above the cap", impl.EntEntry{Kind: impl.EntPass, Ticket: 0, Who: 1, Price: 49}, false},
		{"passed on at a cap that is no more", impl.EntEntry{Kind: impl.EntPass, Ticket: 7, Who: 1, Price: 4}, true},
		{"passed on above it", impl.EntEntry{Kind: impl.EntPass, Ticket: 7, Who: 1, Price: 5}, false},
		{"passed on for 1", impl.EntEntry{Kind: impl.EntPass, Ticket: 0, Who: 3, Price: 1}, true},
		{"passed on for nothing", impl.EntEntry{Kind: impl.EntPass, Ticket: 0, Who: 3}, false},
		{"passed on to who has it", impl.EntEntry{Kind: impl.EntPass, Ticket: 0, Who: 2, Price: 40}, false},
		{"passed on to nobody", impl.EntEntry{Kind: impl.EntPass, Ticket: 0, Who: 0, Price: 40}, false},
		{"passed on behind an enter", impl.EntEntry{Kind: impl.EntPass, Ticket: 1, Who: 3, Price: 40}, false},
		{"passed on with nobody having it", impl.EntEntry{Kind: impl.EntPass, Ticket: 2, Who: 3, Price: 1}, false},
		{"entered", impl.EntEntry{Kind: impl.EntEnter, Ticket: 0, Who: 2}, true},
		{"entered twice", impl.EntEntry{Kind: impl.EntEnter, Ticket: 1, Who: 2}, false},
		{"entered by somebody else", impl.EntEntry{Kind: impl.EntEnter, Ticket: 0, Who: 3}, false},
		{"entered by nobody", impl.EntEntry{Kind: impl.EntEnter, Ticket: 2, Who: 0}, false},
		{"entered with nobody having it", impl.EntEntry{Kind: impl.EntEnter, Ticket: 2, Who: 1}, false},
		{"no kind", impl.EntEntry{Kind: 0, Ticket: 0, Who: 3, Price: 1}, false},
		{"no kind", impl.EntEntry{Kind: 4, Ticket: 0, Who: 2}, false},
		{"no ticket", impl.EntEntry{Kind: impl.EntIssue, Ticket: -1, Who: 1, Price: 1}, false},
		{"no ticket", impl.EntEntry{Kind: impl.EntIssue, Ticket: impl.TikMax, Who: 1, Price: 1}, false},
		{"nothing", impl.EntEntry{}, false},
	} {
		if got := impl.OwnFits(rows, c.e); got != c.want {
			t.Errorf("%s: %v", c.what, got)
		}
		behind, ok := impl.OwnPut(rows, c.e)
		if ok != c.want || ok == slices.Equal(behind, rows) {
			t.Errorf("%s: OwnPut is %v, %v", c.what, behind, ok)
		}
	}
}

// may asks whether an entry may follow, and that rows stay as they are, if it may not.
func may(t *testing.T, rows []impl.OwnRow, e impl.EntEntry, want bool) {
	t.Helper()
	if got := impl.OwnFits(rows, e); got != want {
		t.Fatalf("OwnFits(%v, %+v) is %v", rows, e, got)
	}
	behind, ok := impl.OwnPut(rows, e)
	if ok != want {
		t.Fatalf("OwnPut(%v, %+v) is %v", rows, e, ok)
	}
	if !ok {
		sameList(t, "as they are", behind, rows)
	}
}

// Promise 34, of rows that are not ok: the entry itself would fit.
func TestOwnFitsOfWrongRows(t *testing.T) {
	r := &row{62}
	for n := range 20 {
		rows := r.rows(n)
		for ticket := range impl.TikMax {
			if ticket < n {
				rows[ticket] = impl.OwnRow{Who: 2, Face: 10}
			}
			may(t, rows, impl.EntEntry{Kind: impl.EntPass, Ticket: ticket, Who: 1, Price: 12}, n == impl.TikMax)
			may(t, rows, impl.EntEntry{Kind: impl.EntEnter, Ticket: ticket, Who: 2}, n == impl.TikMax)
			if ticket < n {
				rows[ticket] = impl.OwnRow{}
			}
			may(t, rows, impl.EntEntry{Kind: impl.EntIssue, Ticket: ticket, Who: 2, Price: 5}, n == impl.TikMax)
		}
	}
	for i := range impl.TikMax {
		for _, wrong := range wrongRows() {
			rows := with(nobody(), i, wrong)
			for ticket := range rows {
				may(t, rows, impl.EntEntry{Kind: impl.EntIssue, Ticket: ticket, Who: 2, Price: 5}, false)
				may(t, rows, impl.EntEntry{Kind: impl.EntPass, Ticket: ticket, Who: 2, Price: 1}, false)
				may(t, rows, impl.EntEntry{Kind: impl.EntEnter, Ticket: ticket, Who: 1}, false)
			}
		}
	}
	may(t, nil, impl.EntEntry{Kind: impl.EntIssue, Ticket: 0, Who: 2, Price: 5}, false)
	may(t, []impl.OwnRow{}, impl.EntEntry{}, false)
}

// Promise 35.
func TestOwnPutTurnsOneRow(t *testing.T) {
	r, put := &row{63}, 0
	for range 20000 {
		rows := r.rows(impl.TikMax)
		e := impl.EntEntry{Kind: 1 + r.below(3), Ticket: r.below(impl.TikMax), Who: 1 + r.below(impl.UsrMax), Price: r.below(61)}
		if e.Kind == impl.EntEnter {
			e.Price = 0
		}
		row := rows[e.Ticket]
		may(t, rows, e, slowFits(row, e))
		behind, ok := impl.OwnPut(rows, e)
		if !ok {
			continue
		}
		put++
		row.Who = e.Who
		if e.Kind == impl.EntIssue {
			row.Face = e.Price
		}
		row.Used = e.Kind == impl.EntEnter
		sameList(t, "rows behind it", behind, with(rows, e.Ticket, row))
		if !impl.OwnOk(behind) {
			t.Fatalf("%v behind %+v are not ok", behind, e)
		}
	}
	if put < 3000 {
		t.Fatalf("only %d entries followed", put)
	}
}

// Promise 36.
func TestOwnFoldIsOwnPutOfEach(t *testing.T) {
	everyLog(64, func(list []impl.EntEntry) {
		rows, ok := nobody(), true
		for n := 0; n <= len(list); n++ {
			want := rows
			if !ok || n > impl.TreMax {
				want = nil
			}
			got, folds := impl.OwnFold(list[:n])
			if folds != (ok && n <= impl.TreMax) {
				t.Fatalf("OwnFold of the first %d of %v is %v", n, list, folds)
			}
			sameList(t, "rows", got, want)
			if ok && n < len(list) {
				rows, ok = impl.OwnPut(rows, list[n])
			}
		}
	})
}

func TestOwnFoldIsOfEachStory(t *testing.T) {
	folds, others := 0, 0
	everyLog(65, func(list []impl.EntEntry) {
		want, ok := slowFold(list)
		rows, folded := impl.OwnFold(list)
		if folded != ok {
			t.Fatalf("OwnFold of %v is %v", list, folded)
		}
		sameList(t, "rows", rows, want)
		if ok {
			folds++
		} else {
			others++
		}
	})
	if folds < 200 || others < 200 {
		t.Fatalf("%d logs fold, %d do not", folds, others)
	}
}

func TestOwnFoldEdges(t *testing.T) {
	for _, list := range [][]impl.EntEntry{nil, {}} {
		rows, ok := impl.OwnFold(list)
		if !ok {
			t.Fatal("no entries follow one another")
		}
		sameList(t, "nobody", rows, nobody())
	}
	most := (&row{66}).log(impl.TreMax + 1)
	if rows, ok := impl.OwnFold(most[:impl.TreMax]); !ok || len(rows) != impl.TikMax {
		t.Fatalf("of TreMax entries: %v, %v", rows, ok)
	}
	if rows, ok := impl.OwnFold(most); ok || len(rows) != 0 {
		t.Fatalf("of one more: %v, %v", rows, ok)
	}
	wrong := with(most[:impl.TreMax], impl.TreMax-1, impl.EntEntry{Kind: impl.EntIssue, Ticket: most[0].Ticket, Who: 1, Price: 1})
	if rows, ok := impl.OwnFold(wrong); ok || len(rows) != 0 {
		t.Fatalf("with a last one that may not follow: %v, %v", rows, ok)
	}
	one, _ := impl.OwnFold([]impl.EntEntry{{Kind: 1, Ticket: 3, Who: 2, Price: 10}, {Kind: 2, Ticket: 3, Who: 4, Price: 12}, {Kind: 2, Ticket: 3, Who: 2, Price: 1}, {Kind: 2, Ticket: 3, Who: 1, Price: 12}, {Kind: 3, Ticket: 3, Who: 1}})
	sameList(t, "there, back, and on", one, with(nobody(), 3, impl.OwnRow{Who: 1, Face: 10, Used: true}))
}

// Promise 4.
func TestOwnFoldIssuesOnceAndEntersOnce(t *testing.T) {
	everyLog(67, func(list []impl.EntEntry) {
		rows, ok := impl.OwnFold(list)
		if !ok {
			return
		}
		for ticket := range impl.TikMax {
			about := impl.EntAbout(list, ticket)
			who := 0
			for i, e := range about {
				if (i == 0) != (e.Kind == impl.EntIssue) {
					t.Fatalf("about %d: %v", ticket, about)
				}
				if e.Kind == impl.EntEnter && (i != len(about)-1 || e.Who != who) {
					t.Fatalf("about %d: %v", ticket, about)
				}
				if e.Kind == impl.EntPass && (e.Who == who || e.Price > impl.EntCap(about[0].Price)) {
					t.Fatalf("about %d: %v", ticket, about)
				}
				who = e.Who
			}
			if rows[ticket].Who != who || rows[ticket].Used != (len(about) > 0 && about[len(about)-1].Kind == impl.EntEnter) {
				t.Fatalf("about %d: %v, and it stands as %+v", ticket, about, rows[ticket])
			}
		}
	})
}

// The numbers were worked out from the document, apart from the program.
func TestOwnLeafKnown(t *testing.T) {
	for _, c := range []struct {
		ticket int
		row    impl.OwnRow
		want   int
	}{
		{0, impl.OwnRow{}, 57035},
		{7, impl.OwnRow{}, 40225},
		{0, impl.OwnRow{Who: 1, Face: 1}, 16943},
		{3, impl.OwnRow{Who: 4, Face: 10, Used: true}, 15418},
		{3, impl.OwnRow{Who: 4, Face: 10}, 15387},
		{7, impl.OwnRow{Who: 5, Face: 50, Used: true}, 54137},
		{2, impl.OwnRow{Who: -1, Face: math.MaxInt}, 58376},
	} {
		if got := impl.OwnLeaf(c.ticket, c.row); got != c.want {
			t.Errorf("OwnLeaf(%d, %+v): got %d, want %d", c.ticket, c.row, got, c.want)
		}
	}
}

// Promise 38.
func TestOwnLeaf(t *testing.T) {
	rows := slices.Concat(everyRow(), wrongRows())
	for ticket := range impl.TikMax {
		for _, row := range rows {
			leaf := impl.OwnLeaf(ticket, row)
			used := map[bool]int{true: 1}[row.Used]
			if !impl.MixOk(leaf) || leaf != impl.MixLeaf([]int{1000 + ticket, row.Who, row.Face, used}) {
				t.Fatalf("OwnLeaf(%d, %+v) is %d", ticket, row, leaf)
			}
			more, turned := row, row
			more.Who++
			turned.Used = !row.Used
			if impl.OwnLeaf(ticket, more) == leaf || impl.OwnLeaf(ticket, turned) == leaf {
				t.Fatalf("OwnLeaf(%d, %+v) is that of another row", ticket, row)
			}
		}
	}
	for _, ticket := range append(far(), -1, -1000, impl.TikMax, impl.TikMax+1) {
		for _, row := range rows {
			if got := impl.OwnLeaf(ticket, row); got != 0 {
				t.Fatalf("OwnLeaf(%d, %+v): got %d, want 0", ticket, row, got)
			}
		}
	}
}

// The numbers were worked out from the document, apart from the program.
func TestOwnRootKnown(t *testing.T) {
	if got := impl.OwnRoot(nobody()); got != 39534 {
		t.Errorf("of nobody: %d", got)
	}
	rows := with(nobody(), 3, impl.OwnRow{Who: 4, Face: 10, Used: true})
	if got := impl.OwnRoot(rows); got != 50838 {
		t.Errorf("of one ticket: %d", got)
	}
	sameList(t, "proof of 3", impl.OwnProof(rows, 3), []int{42872, 45773, 6571})
	sameList(t, "proof of 7", impl.OwnProof(rows, 7), []int{14546, 22293, 18269})
}

func TestOwnRootAndProofOfWrongRows(t *testing.T) {
	none := func(rows []impl.OwnRow) {
		t.Helper()
		if got := impl.OwnRoot(rows); got != 0 {
			t.Fatalf("OwnRoot(%v): got %d, want 0", rows, got)
		}
		for ticket := -1; ticket <= 20; ticket++ {
			sameList(t, "proof", impl.OwnProof(rows, ticket), nil)
		}
	}
	r := &row{68}
	for n := range 50 {
		if n != impl.TikMax {
			none(r.rows(n))
		}
	}
	for i := range impl.TikMax {
		for _, wrong := range wrongRows() {
			none(with(r.rows(impl.TikMax), i, wrong))
		}
	}
	for _, ticket := range noPlaces(impl.TikMax) {
		sameList(t, "no ticket", impl.OwnProof(r.rows(impl.TikMax), ticket), nil)
	}
}

// turnedShows is promise 37 of a ticket: whether it is shown with Used turned, and that this is so just if that is a clash.
func turnedShows(t *testing.T, rows []impl.OwnRow, ticket int) bool {
	t.Helper()
	root, proof, leaves := impl.OwnRoot(rows), impl.OwnProof(rows, ticket), leavesOf(rows)
	if root != slowRoot(leaves) {
		t.Fatalf("OwnRoot(%v): got %d, want %d", rows, root, slowRoot(leaves))
	}
	sameList(t, "proof", proof, slowProof(leaves, ticket))
	if !impl.OwnCheck(root, ticket, rows[ticket], proof) {
		t.Fatalf("%v does not show the %d of %v", proof, ticket, rows)
	}
	turned := rows[ticket]
	turned.Used = !turned.Used
	shown := impl.OwnCheck(root, ticket, turned, proof)
	clash := impl.TreClash(leaves, ticket, impl.OwnLeaf(ticket, turned), proof)
	if shown != (len(clash) > 0) {
		t.Fatalf("the %d of %v, turned: shown %v, clash %v", ticket, rows, shown, clash)
	}
	if shown {
		isClash(t, clash)
	}
	return shown
}

// Promise 37.
func TestOwnProofShowsItsRow(t *testing.T) {
	r := &row{69}
	for range 500 {
		rows := r.rows(impl.TikMax)
		for ticket := range rows {
			turnedShows(t, rows, ticket)
		}
	}
}

// deafBeside is rows of which two, from a ticket on, mix to a number beside which anything mixes alike.
func deafBeside(t *testing.T, rows []impl.OwnRow, from int, deaf int) []impl.OwnRow {
	t.Helper()
	for _, left := range everyRow() {
		for _, right := range everyRow() {
			if impl.MixPair(impl.OwnLeaf(from, left), impl.OwnLeaf(from+1, right)) == deaf {
				return with(with(rows, from, left), from+1, right)
			}
		}
	}
	t.Fatalf("no rows mix to %d from %d on", deaf, from)
	return nil
}

// Promise 37, where the row with Used turned is shown as well.
func TestOwnProofBesideADeafPair(t *testing.T) {
	rows := (&row{70}).rows(impl.TikMax)
	for _, c := range []struct{ deaf, from, shown int }{{deafRight, 2, 0}, {deafRight, 6, 4}, {deafLeft, 0, 2}, {deafLeft, 4, 6}} {
		beside := deafBeside(t, rows, c.from, c.deaf)
		if !turnedShows(t, beside, c.shown) || !turnedShows(t, beside, c.shown+1) {
			t.Fatalf("%v: the rows at %d are shown just as they are", beside, c.shown)
		}
		if turnedShows(t, beside, c.from) || turnedShows(t, beside, c.from+1) {
			t.Fatalf("%v: the rows at %d are shown turned", beside, c.from)
		}
	}
}

// Promise 5.
func TestOwnCheckOfAnotherOwnerIsAClash(t *testing.T) {
	r, found := &row{71}, 0
	for range 200 {
		rows := r.rows(impl.TikMax)
		root, leaves := impl.OwnRoot(rows), leavesOf(rows)
		for ticket := range rows {
			other := everyRow()[r.below(501)]
			leaf := impl.OwnLeaf(ticket, other)
			for at := range 3 {
				proof, want, ok := forged(r, leaves, ticket, leaf, at)
				if !ok || leaf == leaves[ticket] {
					continue
				}
				found++
				if !impl.OwnCheck(root, ticket, other, proof) {
					t.Fatalf("%v does not show %+v as the %d of %v", proof, other, ticket, rows)
				}
				clash := impl.TreClash(leaves, ticket, leaf, proof)
				sameList(t, "clash", clash, want)
				isClash(t, clash)
			}
		}
	}
	if found < 3000 {
		t.Fatalf("only %d owners were forged", found)
	}
}

// OwnCheck is TreCheck of the ticket's leaf, of whatever row, root and proof.
func TestOwnCheckIsTreCheck(t *testing.T) {
	r := &row{72}
	for range 300 {
		rows := r.rows(impl.TikMax)
		root := impl.OwnRoot(rows)
		for ticket := range rows {
			proof := impl.OwnProof(rows, ticket)
			for _, row := range append(r.anyRows(5), rows...) {
				want := impl.TreCheck(root, impl.TikMax, ticket, impl.OwnLeaf(ticket, row), proof)
				if got := impl.OwnCheck(root, ticket, row, proof); got != want {
					t.Fatalf("OwnCheck(%d, %d, %+v, %v) is %v", root, ticket, row, proof, got)
				}
			}
			row := r.anyRows(1)[0]
			up, _ := impl.TreUp(impl.TikMax, ticket, impl.OwnLeaf(ticket, row), proof)
			if !impl.OwnCheck(up, ticket, row, proof) || impl.OwnCheck(up+1, ticket, row, proof) || impl.OwnCheck(up-1, ticket, row, proof) || impl.OwnCheck(up+impl.MixMax, ticket, row, proof) {
				t.Fatalf("%v leads %+v as %d to %d alone", proof, row, ticket, up)
			}
		}
	}
}

func TestOwnCheckWrong(t *testing.T) {
	rows := with((&row{73}).rows(impl.TikMax), 0, impl.OwnRow{Who: 2, Face: 40})
	root, proof := impl.OwnRoot(rows), impl.OwnProof(rows, 0)
	if !impl.OwnCheck(root, 0, rows[0], proof) {
		t.Fatal("it is shown")
	}
	roots := append(noMixed(), root, 0, 5)
	for _, ticket := range append(far(), noPlaces(impl.TikMax)...) {
		for _, root := range roots {
			if impl.OwnCheck(root, ticket, rows[0], proof) || impl.OwnCheck(root, ticket, impl.OwnRow{}, proof) {
				t.Fatalf("there is no ticket %d", ticket)
			}
		}
	}
	for size := range impl.TreMax + 3 {
		other := append(slices.Clone(proof), make([]int, impl.TreMax)...)[:size]
		if size != len(proof) && (impl.OwnCheck(root, 0, rows[0], other) || impl.OwnCheck(0, 0, rows[0], other)) {
			t.Fatalf("%v is no proof", other)
		}
	}
	for _, wrong := range noMixed() {
		for i := range proof {
			if impl.OwnCheck(root, 0, rows[0], with(proof, i, wrong)) {
				t.Fatalf("%d is no number of a proof", wrong)
			}
		}
	}
	for i, n := range proof {
		if impl.OwnCheck(root, 0, rows[0], with(proof, i, (n+1)%impl.MixMax)) {
			t.Fatalf("another number at %d shows it as well", i)
		}
	}
}

// Promise 39.
func TestOwnOfAndOwnCount(t *testing.T) {
	r := &row{74}
	for n := range 3 * impl.TikMax {
		for _, rows := range [][]impl.OwnRow{r.rows(n), r.anyRows(n)} {
			had := map[int][]int{}
			for ticket, row := range rows {
				had[row.Who] = append(had[row.Who], ticket)
			}
			for _, who := range append(far(), -3, -2, -1, 0, 1, 2, 3, 4, 5, 6, 7) {
				sameList(t, "tickets", impl.OwnOf(rows, who), had[who])
				if got := impl.OwnCount(rows, who); got != len(had[who]) {
					t.Fatalf("OwnCount(%v, %d): got %d, want %d", rows, who, got, len(had[who]))
				}
			}
		}
		var together []int
		rows := r.rows(n)
		for who := 0; who <= impl.UsrMax; who++ {
			together = append(together, impl.OwnOf(rows, who)...)
		}
		slices.Sort(together)
		for i, ticket := range together {
			if i != ticket {
				t.Fatalf("all together are %v", together)
			}
		}
		if len(together) != n {
			t.Fatalf("all together are %v of %d", together, n)
		}
	}
	if impl.OwnCount(nil, 0) != 0 || len(impl.OwnOf(nil, 0)) != 0 || impl.OwnCount(nobody(), 0) != impl.TikMax {
		t.Fatal("nobody has all, and nothing of none")
	}
}
