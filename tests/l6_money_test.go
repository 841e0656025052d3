package tests

import (
	"slices"
	"testing"

	"loop.example/stileway/impl"
)

// anybody are the users, and those around and far off them.
func anybody() []int {
	return append(far(), -5, -2, -1, 0, 1, 2, 3, 4, 5, 6, 7)
}

// amounts are how much may be turned, at the edges, and beyond.
func amounts() []int {
	return append(far(), 0, 1, -1, 2, -2, 17, 49999, -50000, impl.MonMax-1, impl.MonMax, impl.MonMax+1, -impl.MonMax+1, -impl.MonMax, -impl.MonMax-1, 2*impl.MonMax, -2*impl.MonMax)
}

// purses is n purses that are ok, one in three of them empty or full.
func (r *row) purses(n int) []int {
	purses := make([]int, n)
	for i := range purses {
		switch r.below(6) {
		case 0:
			purses[i] = 0
		case 1:
			purses[i] = impl.MonMax
		default:
			purses[i] = r.below(impl.MonMax + 1)
		}
	}
	return purses
}

// wrongPurses are lists of purses that are not ok: too few, too many, and with one that is beyond its bounds.
func wrongPurses() [][]int {
	lists := [][]int{nil, {}}
	r := &row{80}
	for n := range 12 {
		if n != impl.UsrMax {
			lists = append(lists, r.purses(n), make([]int, n))
		}
	}
	for i := range impl.UsrMax {
		for _, n := range append(far(), -1, -impl.MonMax, impl.MonMax+1, 2*impl.MonMax) {
			if n < 0 || n > impl.MonMax {
				lists = append(lists, with(r.purses(impl.UsrMax), i, n), with(make([]int, impl.UsrMax), i, n))
			}
		}
	}
	return lists
}

// slowTurned is MonTurn of purses that are ok, seen from where a purse would end.
func slowTurned(purses []int, who int, n int) ([]int, bool) {
	if who < 1 || who > 5 || n < -100000 || n > 100000 {
		return purses, false
	}
	end := purses[who-1] + n
	if end != min(max(end, 0), 100000) {
		return purses, false
	}
	return with(purses, who-1, end), true
}

func TestMonOk(t *testing.T) {
	r := &row{81}
	for i := range impl.UsrMax {
		for _, n := range []int{0, 1, 2, 50000, impl.MonMax - 1, impl.MonMax} {
			if purses := with(r.purses(impl.UsrMax), i, n); !impl.MonOk(purses) {
				t.Fatalf("%v are ok", purses)
			}
		}
	}
	for _, n := range []int{0, impl.MonMax} {
		if purses := slices.Repeat([]int{n}, impl.UsrMax); !impl.MonOk(purses) {
			t.Fatalf("%v are ok", purses)
		}
	}
	for _, purses := range wrongPurses() {
		if impl.MonOk(purses) {
			t.Fatalf("%v are not ok", purses)
		}
	}
}

// Promise 43.
func TestMonHas(t *testing.T) {
	r := &row{82}
	for range 200 {
		purses := r.purses(impl.UsrMax)
		sum := 0
		for _, who := range anybody() {
			want := 0
			if who >= 1 && who <= impl.UsrMax {
				want = purses[who-1]
			}
			got := impl.MonHas(purses, who)
			if got != want {
				t.Fatalf("MonHas(%v, %d): got %d, want %d", purses, who, got, want)
			}
			sum += got
		}
		if sum != impl.MonSum(purses) {
			t.Fatalf("of all users in %v: %d, and MonSum is %d", purses, sum, impl.MonSum(purses))
		}
	}
	for _, purses := range wrongPurses() {
		for _, who := range anybody() {
			if got := impl.MonHas(purses, who); got != 0 {
				t.Fatalf("MonHas(%v, %d) is %d", purses, who, got)
			}
		}
	}
}

func TestMonSum(t *testing.T) {
	for _, c := range []struct {
		purses []int
		want   int
	}{
		{nil, 0},
		{[]int{}, 0},
		{[]int{0, 0, 0, 0, 0}, 0},
		{[]int{0, 100, 100, 100, 90}, 390},
		{slices.Repeat([]int{impl.MonMax}, impl.UsrMax), 500000},
		{[]int{7}, 7},
		{[]int{-3}, -3},
		{[]int{1, -3, 5, 1 << 40}, 1<<40 + 3},
		{[]int{1, 2, 3, 4, 5, 6, 7, 8}, 36},
	} {
		if got := impl.MonSum(c.purses); got != c.want {
			t.Errorf("MonSum(%v): got %d, want %d", c.purses, got, c.want)
		}
	}
}

// turns asks for what MonTurn answers, and, if it is true, that back again is as it was.
func turns(t *testing.T, purses []int, who int, n int, want []int, ok bool) {
	t.Helper()
	got, turned := impl.MonTurn(purses, who, n)
	if turned != ok || !slices.Equal(got, want) {
		t.Fatalf("MonTurn(%v, %d, %d): got %v, %v, want %v, %v", purses, who, n, got, turned, want, ok)
	}
	if !ok {
		return
	}
	back, turned := impl.MonTurn(got, who, -n)
	if !turned || !slices.Equal(back, purses) {
		t.Fatalf("MonTurn(%v, %d, %d), and back: %v, %v", purses, who, n, back, turned)
	}
}

// Promise 41.
func TestMonTurn(t *testing.T) {
	r := &row{83}
	for range 50 {
		purses := r.purses(impl.UsrMax)
		for _, who := range anybody() {
			near := amounts()
			if who >= 1 && who <= impl.UsrMax {
				has := purses[who-1]
				near = append(near, -has-1, -has, -has+1, impl.MonMax-has-1, impl.MonMax-has, impl.MonMax-has+1)
			}
			for _, n := range near {
				want, ok := slowTurned(purses, who, n)
				turns(t, purses, who, n, want, ok)
			}
		}
	}
	for _, purses := range wrongPurses() {
		for _, who := range anybody() {
			for _, n := range []int{0, 1, -1, impl.MonMax, -impl.MonMax} {
				turns(t, purses, who, n, purses, false)
			}
		}
	}
}

func TestMonTurnEdges(t *testing.T) {
	purses := []int{0, 1, 50000, impl.MonMax - 1, impl.MonMax}
	for _, c := range []struct {
		who, n, end int
	}{
		{1, 0, 0}, {1, 1, 1}, {1, impl.MonMax, impl.MonMax},
		{2, -1, 0}, {2, impl.MonMax - 1, impl.MonMax},
		{3, 50000, impl.MonMax}, {3, -50000, 0},
		{4, 1, impl.MonMax}, {4, -impl.MonMax + 1, 0},
		{5, 0, impl.MonMax}, {5, -impl.MonMax, 0}, {5, -1, impl.MonMax - 1},
	} {
		turns(t, purses, c.who, c.n, with(purses, c.who-1, c.end), true)
	}
	for _, c := range []struct{ who, n int }{
		{1, -1}, {1, impl.MonMax + 1}, {1, -impl.MonMax}, {2, -2}, {2, impl.MonMax}, {3, 50001}, {3, -50001}, {4, 2}, {4, -impl.MonMax}, {5, 1}, {5, -impl.MonMax - 1},
		{0, 0}, {0, 1}, {6, 0}, {6, 1}, {-1, 0},
	} {
		turns(t, purses, c.who, c.n, purses, false)
	}
}

// moves asks for what MonMove answers, and, if it is true, that there and back is as it was.
func moves(t *testing.T, purses []int, from int, to int, n int, want []int, ok bool) {
	t.Helper()
	got, moved := impl.MonMove(purses, from, to, n)
	if moved != ok || !slices.Equal(got, want) {
		t.Fatalf("MonMove(%v, %d, %d, %d): got %v, %v, want %v, %v", purses, from, to, n, got, moved, want, ok)
	}
	if impl.MonSum(got) != impl.MonSum(purses) {
		t.Fatalf("MonMove(%v, %d, %d, %d) is %v, with another sum", purses, from, to, n, got)
	}
	if !ok {
		return
	}
	back, moved := impl.MonMove(got, to, from, n)
	if !moved || !slices.Equal(back, purses) {
		t.Fatalf("MonMove(%v, %d, %d, %d), and back: %v, %v", purses, from, to, n, back, moved)
	}
}

// Promises 40 and 42.
func TestMonMove(t *testing.T) {
	r, moved := &row{84}, 0
	for range 20 {
		purses := r.purses(impl.UsrMax)
		for _, from := range anybody() {
			for _, to := range anybody() {
				near := amounts()
				if from >= 1 && from <= impl.UsrMax && to >= 1 && to <= impl.UsrMax {
					near = append(near, purses[from-1], purses[from-1]+1, impl.MonMax-purses[to-1], impl.MonMax-purses[to-1]+1)
				}
				for _, n := range near {
					less, taken := slowTurned(purses, from, -n)
					more, given := slowTurned(less, to, n)
					if n < 0 || n > impl.MonMax || from == to || !taken || !given {
						moves(t, purses, from, to, n, purses, false)
						continue
					}
					moves(t, purses, from, to, n, more, true)
					moved++
				}
			}
		}
	}
	if moved < 1000 {
		t.Fatalf("only %d moved", moved)
	}
	for _, purses := range wrongPurses() {
		for _, n := range []int{0, 1, impl.MonMax} {
			moves(t, purses, 1, 2, n, purses, false)
			moves(t, purses, 5, 4, n, purses, false)
		}
	}
}

// Promises 40 and 42, at the edges; what cannot be put into one purse is not taken out of the other one.
func TestMonMoveEdges(t *testing.T) {
	purses := []int{0, 1, 50000, impl.MonMax - 1, impl.MonMax}
	for _, c := range []struct {
		from, to, n int
		want        []int
	}{
		{1, 2, 0, purses},
		{5, 1, 0, purses},
		{5, 1, impl.MonMax, []int{impl.MonMax, 1, 50000, impl.MonMax - 1, 0}},
		{2, 1, 1, []int{1, 0, 50000, impl.MonMax - 1, impl.MonMax}},
		{5, 4, 1, []int{0, 1, 50000, impl.MonMax, impl.MonMax - 1}},
		{4, 3, 50000, []int{0, 1, impl.MonMax, 49999, impl.MonMax}},
	} {
		moves(t, purses, c.from, c.to, c.n, c.want, true)
	}
	for _, c := range []struct{ from, to, n int }{
		{1, 2, 1}, {2, 1, 2}, {5, 4, 2}, {3, 5, 1}, {4, 3, 50001}, {2, 5, 1},
		{3, 2, -1}, {3, 1, impl.MonMax + 1}, {5, 1, impl.MonMax + 1}, {2, 3, -impl.MonMax},
		{3, 3, 0}, {3, 3, 1}, {5, 5, impl.MonMax},
		{0, 1, 0}, {1, 0, 0}, {0, 0, 0}, {3, 6, 0}, {3, 6, 1}, {6, 3, 0}, {6, 3, 1}, {3, 0, 1}, {0, 3, 1}, {-1, 3, 1},
	} {
		moves(t, purses, c.from, c.to, c.n, purses, false)
	}
}
