package tests

import (
	"slices"
	"testing"

	"loop.example/stileway/impl"
)

// slowGatOk is GatOk, by the numbers of the document.
func slowGatOk(g impl.GatGate) bool {
	for i, ticket := range g.Done {
		if ticket < 0 || ticket > 7 || i > 0 && ticket <= g.Done[i-1] {
			return false
		}
	}
	return slowHedOk(g.Head)
}

// slowOwnUp is where a row of a ticket that there is leads with three numbers, by the bits of the ticket.
func slowOwnUp(ticket int, r impl.OwnRow, proof []int) int {
	used := 0
	if r.Used {
		used = 1
	}
	up := slowLeaf([]int{1000 + ticket, r.Who, r.Face, used})
	for bit, beside := range proof {
		if ticket>>bit&1 == 0 {
			up = impl.MixPair(up, beside)
		} else {
			up = impl.MixPair(beside, up)
		}
	}
	return up
}

// slowShown says whether a row of a ticket is shown under a root of all rows.
func slowShown(root int, ticket int, r impl.OwnRow, proof []int) bool {
	if ticket < 0 || ticket > 7 || len(proof) != 3 || slices.ContainsFunc(proof, func(p int) bool { return p < 0 || p > 65520 }) {
		return false
	}
	return slowOwnUp(ticket, r, proof) == root
}

// slowShow is GatShow, a case behind the other.
func slowShow(g impl.GatGate, ticket int, who int, r impl.OwnRow, proof []int) (impl.GatGate, bool) {
	switch {
	case !slowGatOk(g):
		return impl.GatGate{}, false
	case who < 1 || who > 5, who != r.Who, r.Used, slices.Contains(g.Done, ticket), !slowShown(g.Head.Own, ticket, r, proof):
		return g, false
	}
	done := append(slices.Clone(g.Done), ticket)
	slices.Sort(done)
	return impl.GatGate{Head: g.Head, Done: done}, true
}

func sameGate(t *testing.T, what string, got impl.GatGate, want impl.GatGate) {
	t.Helper()
	if got.Head != want.Head || !slices.Equal(got.Done, want.Done) {
		t.Fatalf("%s: got %v, want %v", what, got, want)
	}
}

// syncs asks what GatSync answers, if it is known whether the head follows the gate's. Promise 59.
func syncs(t *testing.T, what string, g impl.GatGate, h impl.HedHead, proof []int, follows bool) impl.GatGate {
	t.Helper()
	got, ok := impl.GatSync(g, h, proof)
	want, wantOk := g, false
	if !slowGatOk(g) {
		want = impl.GatGate{}
	} else if follows {
		want.Head, wantOk = h, true
	}
	if ok != wantOk {
		t.Fatalf("%s: GatSync(%v, %v, %v) is %v", what, g, h, proof, ok)
	}
	sameGate(t, what, got, want)
	if slowGatOk(g) && (ok != impl.HedFollows(g.Head, h, proof) || got.Head.Size < g.Head.Size || !impl.GatOk(got)) {
		t.Fatalf("%s: GatSync(%v, %v, %v) is %v and %v", what, g, h, proof, got, ok)
	}
	return got
}

// shown asks what GatShow answers, and that nobody goes through behind somebody. Promise 11.
func shown(t *testing.T, what string, g impl.GatGate, ticket int, who int, r impl.OwnRow, proof []int) (impl.GatGate, bool) {
	t.Helper()
	got, ok := impl.GatShow(g, ticket, who, r, proof)
	want, wantOk := slowShow(g, ticket, who, r, proof)
	if ok != wantOk {
		t.Fatalf("%s: GatShow(%v, %d, %d, %v, %v) is %v", what, g, ticket, who, r, proof, ok)
	}
	sameGate(t, what, got, want)
	if ok {
		again, twice := impl.GatShow(got, ticket, who, r, proof)
		if twice {
			t.Fatalf("%s: through %v goes user %d once more with ticket %d", what, got, who, ticket)
		}
		sameGate(t, what+", once more", again, got)
	}
	return got, ok
}

// through asks that somebody goes through, and is the gate behind that.
func through(t *testing.T, what string, g impl.GatGate, ticket int, who int, r impl.OwnRow, proof []int) impl.GatGate {
	t.Helper()
	next, ok := shown(t, what, g, ticket, who, r, proof)
	if !ok {
		t.Fatalf("%s: through %v does not go user %d with ticket %d, %v and %v", what, g, who, ticket, r, proof)
	}
	return next
}

// stays asks that somebody does not go through a gate.
func stays(t *testing.T, what string, g impl.GatGate, ticket int, who int, r impl.OwnRow, proof []int) {
	t.Helper()
	if next, ok := shown(t, what, g, ticket, who, r, proof); ok {
		t.Fatalf("%s: through %v goes user %d with ticket %d, %v and %v: %v", what, g, who, ticket, r, proof, next)
	}
}

// allDone are all lists of tickets, rising.
func allDone() [][]int {
	var lists [][]int
	for bits := range 256 {
		var list []int
		for ticket := range 8 {
			if bits>>ticket&1 == 1 {
				list = append(list, ticket)
			}
		}
		lists = append(lists, list)
	}
	return lists
}

// done is some tickets, rising.
func (r *row) done() []int {
	return allDone()[r.below(256)&r.below(256)]
}

// wrongDone are lists that no gate may have as Done.
func wrongDone() [][]int {
	lists := [][]int{{-1}, {8}, {1, 0}, {0, 0}, {7, 7}, {0, 1, 1}, {0, 2, 1}, {3, 5, 4, 6}, {-1, 0, 1}, {5, 6, 8}, {0, 1, 2, 3, 4, 5, 6, 7, 8}, {0, 1, 2, 3, 4, 5, 6, 7, 7}, {7, 6, 5, 4, 3, 2, 1, 0}, {0, -1}, {8, 7}}
	for _, n := range far() {
		lists = append(lists, []int{n}, []int{0, n}, []int{n, 7})
	}
	return lists
}

// wrongGates is a gate, turned so that it is not ok.
func wrongGates(g impl.GatGate) []impl.GatGate {
	var wrong []impl.GatGate
	for _, h := range wrongHeads(g.Head) {
		wrong = append(wrong, impl.GatGate{Head: h, Done: g.Done})
	}
	for _, done := range wrongDone() {
		wrong = append(wrong, impl.GatGate{Head: g.Head, Done: done})
	}
	return wrong
}

// gateOf is a gate that goes by the head of entries, with nobody through, and how tickets stand behind these.
func gateOf(t *testing.T, list []impl.EntEntry) (impl.GatGate, []impl.OwnRow) {
	t.Helper()
	rows, ok := impl.OwnFold(list)
	if !ok {
		t.Fatalf("%v do not follow one another", list)
	}
	return impl.GatGate{Head: headAt(t, list, len(list))}, rows
}

// gateUnder is a gate that goes by a root of rows alone.
func gateUnder(root int) impl.GatGate {
	return impl.GatGate{Head: impl.HedHead{Size: 3, Log: 9, Own: root}}
}

// entriesFor is entries behind which tickets stand so.
func entriesFor(rows []impl.OwnRow) []impl.EntEntry {
	var list []impl.EntEntry
	for ticket, r := range rows {
		if r.Who != 0 {
			list = append(list, impl.EntEntry{Kind: impl.EntIssue, Ticket: ticket, Who: r.Who, Price: r.Face})
		}
		if r.Used {
			list = append(list, impl.EntEntry{Kind: impl.EntEnter, Ticket: ticket, Who: r.Who})
		}
	}
	return list
}

// bearers is each row that goes through, if it is shown.
func bearers() []impl.OwnRow {
	return slices.DeleteFunc(everyRow(), func(r impl.OwnRow) bool { return r.Used || r.Who == 0 })
}

func TestGatNew(t *testing.T) {
	g := impl.GatNew()
	sameGate(t, "new", g, impl.GatGate{Head: impl.HedHead{Size: 0, Log: 5, Own: 39534}})
	if head, ok := impl.HedOf(nil); !ok || g.Head != head || !impl.GatOk(g) {
		t.Fatalf("GatNew is %v", g)
	}
	for ticket := -1; ticket <= impl.TikMax; ticket++ {
		for who := -1; who <= impl.UsrMax+1; who++ {
			stays(t, "nobody has a ticket yet", g, ticket, who, impl.OwnRow{}, impl.OwnProof(nobody(), ticket))
			stays(t, "nobody has a ticket yet", g, ticket, who, impl.OwnRow{Who: who, Face: 5}, impl.OwnProof(nobody(), ticket))
		}
	}
}

func TestGatOk(t *testing.T) {
	for _, h := range append(sevenHeads(), impl.HedHead{}, impl.HedHead{Size: impl.TreMax, Log: impl.MixMax - 1, Own: impl.MixMax - 1}) {
		for _, done := range allDone() {
			if g := (impl.GatGate{Head: h, Done: done}); !impl.GatOk(g) {
				t.Fatalf("%v is ok", g)
			}
		}
		for _, g := range wrongGates(impl.GatGate{Head: h, Done: []int{1, 4}}) {
			if impl.GatOk(g) {
				t.Fatalf("%v is not ok", g)
			}
		}
	}
	for a := -2; a <= 9; a++ {
		for b := -2; b <= 9; b++ {
			for c := -2; c <= 9; c++ {
				for _, h := range []impl.HedHead{{}, {Size: -1}} {
					g := impl.GatGate{Head: h, Done: []int{a, b, c}}
					if got := impl.GatOk(g); got != slowGatOk(g) {
						t.Fatalf("GatOk of %v is %v", g, got)
					}
				}
			}
		}
	}
	for _, h := range edgeHeads() {
		if got := impl.GatOk(impl.GatGate{Head: h}); got != slowHedOk(h) {
			t.Fatalf("GatOk of a gate that goes by %v is %v", h, got)
		}
	}
}

// What is known was worked out from the document, apart from the program.
func TestGatKnown(t *testing.T) {
	heads := sevenHeads()
	g := syncs(t, "the first entry", impl.GatNew(), heads[1], nil, true)
	first, second := impl.OwnRow{Who: 2, Face: 40}, impl.OwnRow{Who: 3, Face: 40}
	beside := []int{17193, 3245, 6571}
	old := through(t, "user 2 has it", g, 0, 2, first, beside)
	sameList(t, "through", old.Done, []int{0})
	stays(t, "user 3 has it later", g, 0, 3, second, beside)
	stays(t, "user 3 has it later", g, 0, 3, first, beside)

	g = syncs(t, "the third entry", g, heads[3], []int{37673, 36865}, true)
	stays(t, "user 2 has it no more", g, 0, 2, first, beside)
	stays(t, "user 2 has it no more", g, 0, 2, first, []int{15611, 3245, 6571})
	g = through(t, "user 4 has it", g, 1, 4, impl.OwnRow{Who: 4, Face: 30}, []int{51842, 3245, 6571})
	g = through(t, "user 3 has it", g, 0, 3, second, []int{15611, 3245, 6571})
	sameList(t, "through", g.Done, []int{0, 1})

	g = syncs(t, "the sixth entry", g, heads[6], impl.HedProof(sevenEntries()[:6], 3), true)
	stays(t, "somebody went through", g, 1, 5, impl.OwnRow{Who: 5, Face: 30}, []int{51873, 3245, 51629})
	stays(t, "entered with", g, 0, 3, impl.OwnRow{Who: 3, Face: 40, Used: true}, []int{45013, 3245, 51629})
	g = through(t, "user 1 has it", g, 7, 1, impl.OwnRow{Who: 1, Face: 1}, []int{14546, 22293, 59137})
	sameList(t, "through", g.Done, []int{0, 1, 7})

	other := syncs(t, "another gate", impl.GatNew(), heads[7], nil, true)
	stays(t, "entered with", other, 7, 1, impl.OwnRow{Who: 1, Face: 1, Used: true}, []int{14546, 22293, 59137})
	other = through(t, "user 5 has it", other, 1, 5, impl.OwnRow{Who: 5, Face: 30}, []int{51873, 3245, 64044})
	sameList(t, "at both", impl.GatThrough([]impl.GatGate{other, g}), []int{0, 1, 7})
	for ticket, times := range []int{1, 2, 0, 0, 0, 0, 0, 1} {
		if got := impl.GatTimes([]impl.GatGate{other, g}, ticket); got != times {
			t.Fatalf("GatTimes of %d is %d", ticket, got)
		}
	}
}

// Promise 59, of heads of one log, with each proof of it, and with others.
func TestGatSyncOfOneLog(t *testing.T) {
	r := &row{110}
	for _, n := range []int{1, 2, 3, 7, 8, 9, 17, 33, impl.TreMax} {
		list := r.log(n)
		for m := range n + 1 {
			g := impl.GatGate{Head: headAt(t, list, m), Done: r.done()}
			for size := range n + 1 {
				h, proof := headAt(t, list, size), impl.HedProof(list[:size], m)
				syncs(t, "of one log", g, h, proof, size >= m)
				for _, other := range [][]int{nil, impl.HedProof(list, m), r.leaves(len(proof)), r.leaves(r.below(8)), noMixed(), append(slices.Clone(proof), 1)} {
					syncs(t, "with another proof", g, h, other, slowFollows(g.Head, h, other))
				}
				for _, other := range append(otherHeads(h), wrongHeads(h)...) {
					syncs(t, "another head", g, other, proof, slowFollows(g.Head, other, proof))
				}
			}
		}
	}
}

// Promise 59, of each pair of heads at the edges.
func TestGatSyncOfEachPair(t *testing.T) {
	proofs, r := [][]int{nil, {0}, {5}, {0, 5}, {-1}}, &row{111}
	for _, old := range edgeHeads() {
		g := impl.GatGate{Head: old, Done: r.done()}
		for _, h := range edgeHeads() {
			for _, proof := range proofs {
				syncs(t, "a pair", g, h, proof, slowFollows(old, h, proof))
			}
		}
	}
}

func TestGatSyncOfWrongGates(t *testing.T) {
	list, heads := sevenEntries(), sevenHeads()
	for m, old := range heads {
		for n := m; n < len(heads); n++ {
			proof := impl.HedProof(list[:n], m)
			syncs(t, "right", impl.GatGate{Head: old, Done: []int{2, 6}}, heads[n], proof, true)
			for _, wrong := range wrongGates(impl.GatGate{Head: old, Done: []int{2, 6}}) {
				syncs(t, "a gate that is not ok", wrong, heads[n], proof, true)
				syncs(t, "a gate that is not ok, and its own head", wrong, wrong.Head, nil, true)
			}
		}
	}
}

// A gate hears heads that were sent from where it once was: late, twice, or never; it goes by one of the log's heads, and on.
func TestGatSyncOnItsWay(t *testing.T) {
	r := &row{112}
	for range 30 {
		list := r.log(impl.TreMax)
		g, taken, left := impl.GatGate{Head: headAt(t, list, 0), Done: r.done()}, 0, 0
		for range 200 {
			from := max(0, g.Head.Size-r.below(2)*r.below(4))
			size := min(impl.TreMax, from+r.below(4))
			h, proof := headAt(t, list, size), impl.HedProof(list[:size], from)
			next := syncs(t, "on its way", g, h, proof, slowFollows(g.Head, h, proof))
			if next.Head.Size < g.Head.Size || next.Head != headAt(t, list, next.Head.Size) {
				t.Fatalf("from %v on %v goes by %v", g, h, next)
			}
			if next.Head.Size > g.Head.Size {
				taken++
			} else {
				left++
			}
			sameList(t, "done", next.Done, g.Done)
			g = next
		}
		if taken < 5 || left < 5 {
			t.Fatalf("%d heads were taken, %d were not", taken, left)
		}
	}
}

// Promise 11: each of what the document asks for, and nothing else, lets somebody through.
func TestGatShowJustIf(t *testing.T) {
	r, went, stayed := &row{113}, 0, 0
	for range 60 {
		rows := r.rows(impl.TikMax)
		g := impl.GatGate{Head: impl.HedHead{Size: r.below(impl.TreMax + 1), Log: r.below(impl.MixMax), Own: impl.OwnRoot(rows)}, Done: r.done()}
		for ticket := -1; ticket <= impl.TikMax; ticket++ {
			there := rows[max(0, min(ticket, impl.TikMax-1))]
			turned, sold, nought := there, there, impl.OwnRow{}
			turned.Used, sold.Who = !there.Used, 1+there.Who%impl.UsrMax
			proof := impl.OwnProof(rows, ticket)
			proofs := [][]int{proof, impl.OwnProof(rows, ticket^1), impl.OwnProof(rows, r.below(impl.TikMax)), nil, r.leaves(3), append(slices.Clone(proof), 5)}
			for who := -1; who <= impl.UsrMax+1; who++ {
				for _, row := range []impl.OwnRow{there, turned, sold, nought, {Who: who, Face: there.Face}, {Who: who, Face: there.Face, Used: true}} {
					for _, proof := range proofs {
						if _, ok := shown(t, "any", g, ticket, who, row, proof); ok {
							went++
						} else {
							stayed++
						}
					}
				}
			}
		}
	}
	if went < 100 || stayed < 1000 {
		t.Fatalf("%d went through, %d stayed", went, stayed)
	}
}

// Promise 12, of who has a ticket: these go through under the head of entries, and nobody else does.
func TestGatShowUnderAnHonestHead(t *testing.T) {
	r, went := &row{114}, 0
	for n := range impl.TreMax + 1 {
		for range 3 {
			list := r.log(n)
			g, rows := gateOf(t, list)
			for ticket, row := range rows {
				proof := impl.OwnProof(rows, ticket)
				for who := -1; who <= impl.UsrMax+1; who++ {
					if row.Who == who && who != 0 && !row.Used {
						sameList(t, "through", through(t, "who has it", g, ticket, who, row, proof).Done, []int{ticket})
						went++
						continue
					}
					stays(t, "who does not have it", g, ticket, who, row, proof)
				}
			}
		}
	}
	if went < 200 {
		t.Fatalf("only %d went through", went)
	}
}

// Promise 12, of who shows another row: whoever goes through so has found a clash.
func TestGatShowOfAnotherRowIsAClash(t *testing.T) {
	r, found, all := &row{115}, 0, bearers()
	for n := range impl.TreMax + 1 {
		g, rows := gateOf(t, r.log(n))
		leaves := leavesOf(rows)
		for ticket := range rows {
			other := all[r.below(len(all))]
			leaf := impl.OwnLeaf(ticket, other)
			for at := range 3 {
				proof, want, ok := forged(r, leaves, ticket, leaf, at)
				if !ok || leaf == leaves[ticket] {
					continue
				}
				found++
				sameList(t, "through", through(t, "forged", g, ticket, other.Who, other, proof).Done, []int{ticket})
				clash := impl.TreClash(leaves, ticket, leaf, proof)
				sameList(t, "clash", clash, want)
				isClash(t, clash)
				stays(t, "forged, by somebody else", g, ticket, 1+other.Who%impl.UsrMax, other, proof)
			}
		}
	}
	if found < 500 {
		t.Fatalf("only %d rows were forged", found)
	}
}

// Promise 12, of who shows another row with OwnProof itself: beside a number with which anything mixes alike each row is shown, and each is a clash.
func TestGatShowBesideADeafPair(t *testing.T) {
	rows := (&row{116}).rows(impl.TikMax)
	for _, c := range []struct{ deaf, from, shown int }{{deafRight, 2, 0}, {deafRight, 6, 4}, {deafLeft, 0, 2}, {deafLeft, 4, 6}} {
		beside := deafBeside(t, rows, c.from, c.deaf)
		g, folded := gateOf(t, entriesFor(beside))
		sameList(t, "rows", folded, beside)
		leaves := leavesOf(beside)
		for ticket := range beside {
			proof := impl.OwnProof(beside, ticket)
			for _, other := range bearers() {
				_, ok := shown(t, "beside", g, ticket, other.Who, other, proof)
				if want := ticket/2 == c.shown/2 || other == beside[ticket]; ok != want {
					t.Fatalf("%v: ticket %d, %v goes through: %v", beside, ticket, other, ok)
				}
				if ok && impl.OwnLeaf(ticket, other) != leaves[ticket] {
					isClash(t, impl.TreClash(leaves, ticket, impl.OwnLeaf(ticket, other), proof))
				}
			}
		}
	}
}

// Who goes through is one of the users, even where a row of nobody, or of somebody else, is shown.
func TestGatShowOfNoUser(t *testing.T) {
	r := &row{117}
	users := append(far(), -1, 0, impl.UsrMax+1, impl.UsrMax+2, 2+impl.MixMax, 2-impl.MixMax)
	for range 20 {
		for ticket := range impl.TikMax {
			proof := r.leaves(3)
			for _, who := range users {
				for _, row := range []impl.OwnRow{{Who: who}, {Who: who, Face: 40}} {
					stays(t, "no user", gateUnder(slowOwnUp(ticket, row, proof)), ticket, who, row, proof)
				}
			}
			for who := 1; who <= impl.UsrMax; who++ {
				row := impl.OwnRow{Who: who, Face: 40}
				through(t, "a user", gateUnder(slowOwnUp(ticket, row, proof)), ticket, who, row, proof)
			}
		}
	}
	g, rows := gateOf(t, sevenEntries()[:3])
	for ticket := 2; ticket < impl.TikMax; ticket++ {
		if !impl.OwnCheck(g.Head.Own, ticket, impl.OwnRow{}, impl.OwnProof(rows, ticket)) {
			t.Fatalf("nobody has ticket %d", ticket)
		}
		stays(t, "nobody", g, ticket, 0, impl.OwnRow{}, impl.OwnProof(rows, ticket))
	}
	// A row whose leaf is the same tells of another user, or of another price; it is the user that counts.
	stays(t, "the same leaf", g, 1, 4+impl.MixMax, impl.OwnRow{Who: 4 + impl.MixMax, Face: 30}, impl.OwnProof(rows, 1))
	stays(t, "the same leaf", g, 1, 4, impl.OwnRow{Who: 4 + impl.MixMax, Face: 30}, impl.OwnProof(rows, 1))
	through(t, "the same leaf", g, 1, 4, impl.OwnRow{Who: 4, Face: 30 + impl.MixMax}, impl.OwnProof(rows, 1))
}

// A gate does not ask whether a row is ok, or whether there are entries, only whether it is shown so.
func TestGatShowOfAnyFace(t *testing.T) {
	r := &row{118}
	for _, face := range append(far(), -1, 0, 1, impl.FaceMax, impl.FaceMax+1) {
		for ticket := range impl.TikMax {
			row, proof := impl.OwnRow{Who: 1 + r.below(impl.UsrMax), Face: face}, r.leaves(3)
			g := gateUnder(slowOwnUp(ticket, row, proof))
			through(t, "any face", g, ticket, row.Who, row, proof)
			g.Head.Size = 0
			through(t, "under a head of no entries", g, ticket, row.Who, row, proof)
		}
	}
}

// A used ticket lets nobody through, however well it is shown.
func TestGatShowOfUsed(t *testing.T) {
	r := &row{119}
	for ticket := range impl.TikMax {
		for who := 1; who <= impl.UsrMax; who++ {
			row, proof := impl.OwnRow{Who: who, Face: 1 + r.below(impl.FaceMax), Used: true}, r.leaves(3)
			stays(t, "used", gateUnder(slowOwnUp(ticket, row, proof)), ticket, who, row, proof)
		}
	}
}

func TestGatShowWrong(t *testing.T) {
	rows := nobody()
	for ticket := range rows {
		rows[ticket] = impl.OwnRow{Who: 1 + ticket%impl.UsrMax, Face: 1 + ticket}
	}
	g, _ := gateOf(t, entriesFor(rows))
	for ticket, row := range rows {
		proof := impl.OwnProof(rows, ticket)
		through(t, "right", g, ticket, row.Who, row, proof)
		for other := -1; other <= impl.TikMax; other++ {
			if other != ticket {
				stays(t, "another ticket", g, other, row.Who, row, proof)
				stays(t, "a proof of another ticket", g, ticket, row.Who, row, impl.OwnProof(rows, other))
			}
		}
		for _, other := range append(far(), noPlaces(impl.TikMax)...) {
			stays(t, "no ticket", g, other, row.Who, row, proof)
		}
		for who := 1; who <= impl.UsrMax; who++ {
			if who != row.Who {
				stays(t, "another owner", g, ticket, who, row, proof)
				stays(t, "another owner, with a row of their own", g, ticket, who, impl.OwnRow{Who: who, Face: row.Face}, proof)
			}
		}
		for i, n := range proof {
			stays(t, "a number less", g, ticket, row.Who, row, slices.Delete(slices.Clone(proof), i, i+1))
			stays(t, "a number more", g, ticket, row.Who, row, slices.Insert(slices.Clone(proof), i, n))
			stays(t, "another number", g, ticket, row.Who, row, with(proof, i, (n+1)%impl.MixMax))
			for _, wrong := range append(noMixed(), n+impl.MixMax, n-impl.MixMax) {
				stays(t, "no mixed number", g, ticket, row.Who, row, with(proof, i, wrong))
			}
		}
		for _, head := range otherHeads(g.Head) {
			if head.Own != g.Head.Own {
				stays(t, "under another head", impl.GatGate{Head: head}, ticket, row.Who, row, proof)
			}
		}
		for _, wrong := range wrongGates(g) {
			stays(t, "a gate that is not ok", wrong, ticket, row.Who, row, proof)
		}
	}
}

// Who goes through leaves the ticket in its place among Done, whatever is there, and no other one turns.
func TestGatShowKeepsDoneRising(t *testing.T) {
	rows := nobody()
	for ticket := range rows {
		rows[ticket] = impl.OwnRow{Who: 1 + ticket%impl.UsrMax, Face: 50 - ticket}
	}
	begin, _ := gateOf(t, entriesFor(rows))
	for _, done := range allDone() {
		g := impl.GatGate{Head: begin.Head, Done: done}
		for ticket, row := range rows {
			next, ok := shown(t, "beside others", g, ticket, row.Who, row, impl.OwnProof(rows, ticket))
			if ok == slices.Contains(done, ticket) || !impl.GatOk(next) || !slices.Contains(next.Done, ticket) {
				t.Fatalf("%v, ticket %d: %v and %v", g, ticket, next, ok)
			}
			if want := len(done) + 1; ok && len(next.Done) != want {
				t.Fatalf("%v, ticket %d: %v", g, ticket, next)
			}
		}
	}
	for _, order := range [][]int{{7, 6, 5, 4, 3, 2, 1, 0}, {0, 1, 2, 3, 4, 5, 6, 7}, {3, 7, 0, 5, 1, 6, 2, 4}} {
		g := begin
		for _, ticket := range order {
			g = through(t, "in turn", g, ticket, rows[ticket].Who, rows[ticket], impl.OwnProof(rows, ticket))
		}
		sameList(t, "all", g.Done, []int{0, 1, 2, 3, 4, 5, 6, 7})
	}
}

// Who went through once stays so at this gate, under each head that follows, whoever has the ticket then; another gate does not know of it.
func TestGatShowOncePerGate(t *testing.T) {
	list := backAndForth(impl.TreMax)
	g, fresh := impl.GatNew(), impl.GatNew()
	for size := 1; size <= len(list); size++ {
		head, from := headAt(t, list, size), g.Head.Size
		g = syncs(t, "on", g, head, impl.HedProof(list[:size], from), true)
		rows, _ := impl.OwnFold(list[:size])
		row, proof := rows[0], impl.OwnProof(rows, 0)
		if size == 1 {
			g = through(t, "the first", g, 0, row.Who, row, proof)
		} else {
			stays(t, "once at this gate", g, 0, row.Who, row, proof)
		}
		other := syncs(t, "another gate", fresh, head, nil, true)
		through(t, "once at another gate", other, 0, row.Who, row, proof)
		stays(t, "who had it ahead", other, 0, 5-row.Who, impl.OwnRow{Who: 5 - row.Who, Face: row.Face}, proof)
	}
	sameList(t, "through", g.Done, []int{0})
}

// tells asks what GatThrough and GatTimes answer. Promise 60.
func tells(t *testing.T, what string, gates []impl.GatGate) {
	t.Helper()
	times, together, ok := map[int]int{}, 0, true
	for _, g := range gates {
		seen := map[int]bool{}
		for _, ticket := range g.Done {
			if !seen[ticket] {
				times[ticket]++
			}
			seen[ticket] = true
		}
		together += len(g.Done)
		ok = ok && slowGatOk(g)
	}
	var want []int
	sum := 0
	for ticket, n := range times {
		want = append(want, ticket)
		sum += n
	}
	slices.Sort(want)
	got := impl.GatThrough(gates)
	sameList(t, what, got, want)
	for _, ticket := range append(far(), -3, -2, -1, 0, 1, 2, 3, 4, 5, 6, 7, 8, 9, 10, 11) {
		if n := impl.GatTimes(gates, ticket); n != times[ticket] || (n > 0) != slices.Contains(got, ticket) {
			t.Fatalf("%s: GatTimes of %d at %v is %d, through are %v", what, ticket, gates, n, got)
		}
	}
	if ok && sum != together {
		t.Fatalf("%s: at %v somebody went through %d times, not %d", what, gates, sum, together)
	}
}

func TestGatThroughAndGatTimes(t *testing.T) {
	r := &row{120}
	for n := range 12 {
		for range 60 {
			gates := make([]impl.GatGate, n)
			for i := range gates {
				gates[i] = impl.GatGate{Head: impl.HedHead{Size: r.below(41)}, Done: r.done()}
			}
			tells(t, "gates that are ok", gates)
			for i := range gates {
				done := make([]int, r.below(12))
				for at := range done {
					done[at] = r.below(13) - 2
				}
				gates[i] = impl.GatGate{Head: impl.HedHead{Size: r.below(50) - 5, Log: r.below(2) * impl.MixMax}, Done: done}
			}
			tells(t, "gates of any kind", gates)
		}
	}
	var wrong []impl.GatGate
	for _, done := range wrongDone() {
		wrong = append(wrong, impl.GatGate{Head: impl.HedHead{Own: -1}, Done: done})
	}
	for from := range wrong {
		tells(t, "wrong gates", wrong[from:])
		tells(t, "one wrong gate", wrong[from:from+1])
	}
}

func TestGatThroughAndGatTimesKnown(t *testing.T) {
	for _, none := range [][]impl.GatGate{nil, {}, {{}}, {impl.GatNew(), impl.GatNew()}} {
		sameList(t, "nobody", impl.GatThrough(none), nil)
		for _, ticket := range append(far(), -1, 0, 7, 8) {
			if n := impl.GatTimes(none, ticket); n != 0 {
				t.Fatalf("GatTimes(%v, %d) is %d", none, ticket, n)
			}
		}
	}
	gates := []impl.GatGate{{Done: []int{3, 5}}, {Done: []int{0, 3, 7}}, {}, {Done: []int{3}}}
	sameList(t, "through", impl.GatThrough(gates), []int{0, 3, 5, 7})
	for ticket, want := range []int{1, 0, 0, 3, 0, 1, 0, 1} {
		if n := impl.GatTimes(gates, ticket); n != want {
			t.Fatalf("GatTimes of %d is %d", ticket, n)
		}
	}
	// Of gates that are not ok a ticket that is there twice is still at one gate.
	odd := []impl.GatGate{{Head: impl.HedHead{Size: 99}, Done: []int{9, 4, 9, -2}}, {Done: []int{4, 4}}}
	sameList(t, "odd gates", impl.GatThrough(odd), []int{-2, 4, 9})
	for ticket, want := range map[int]int{-2: 1, 4: 2, 9: 1, 0: 0} {
		if n := impl.GatTimes(odd, ticket); n != want {
			t.Fatalf("GatTimes of %d is %d", ticket, n)
		}
	}
}
