/-
  The draw of an entry that may follow, often; the draws of rows and an entry.
-/
import Derived.Test.YtdpkdcdieajkbaaDrr
namespace Go.Proofs.Ytdpkdcdieajkbaa
open Go.RowKit
set_option linter.unusedVariables false
set_option maxRecDepth 100000

/-- what a draw of an entry that may follow leaves -/
def NextD (w : World) (r k : Nat) (e : Ending) (w' : World) : Prop :=
  ∃ a t u p : Int, e = .returned (entV a t u p) ∧ Rd w' r k ∧ w.grownBy w' (some r)
/-- rows and an entry, drawn of a code -/
def RowsE (w : World) (e : Ending) (w' : World) : Prop :=
  ∃ (ar : Option Addr) (n cap : Nat) (rs : List Tm.Rw) (a t u p : Int), e = .returned (.tuple #[.slice ar n cap, entV a t u p]) ∧ rs.length = n ∧ n ≤ 8 ∧ n ≤ cap ∧ (ar = none → cap = 0) ∧ RRow w' ar rs ∧ Below w.heap.size w w'

set_option maxHeartbeats 8000000 in
theorem c184 (r k : Nat) (rs : List Tm.Rw) (ar : Option Addr) (n cap base : Nat) (w : World) (hk : k ≤ 900000) (h : Rd w r k) (hn : rs.length = n) (h8 : n ≤ 8) (hb : r < base) (hw : RRowA w base ar rs) :
    Calls Try.prog 184 #[.pointer (some ⟨r, 0, none⟩), .slice ar n cap] w (NextD w r (k + 20)) := by
  have hrl := h.lt
  have HZ := hide (box_new w [.int .i64 0, .int .i64 0, .int .i64 0, .int .i64 0] 25 (by simp [Value.oneCell']))
  have HG := hide (World.grownBy_alloc w (.cells #[.int .i64 0, .int .i64 0, .int .i64 0, .int .i64 0] 25) (some r))
  have HRd := hide (h.alloc (.cells #[.int .i64 0, .int .i64 0, .int .i64 0, .int .i64 0] 25))
  have HW := hide (hw.bel (below_a (.cells #[.int .i64 0, .int .i64 0, .int .i64 0, .int .i64 0] 25)))
  have HN := hide hn
  clear h hw hn
  have z0 := (unhide HZ).cell 0 rfl
  have z0f := (unhide HZ).frozen 0 rfl
  have z1 := (unhide HZ).cell 1 rfl
  have z1f := (unhide HZ).frozen 1 rfl
  have z2 := (unhide HZ).cell 2 rfl
  have z2f := (unhide HZ).frozen 2 rfl
  have z3 := (unhide HZ).cell 3 rfl
  have z3f := (unhide HZ).frozen 3 rfl
  go_enter Try.func184, Try.ntmps184
  go_wp2_with fail
  refine (c192 r (k) 12 _ (by omega) (by omega) (unhide HRd)).mono ?_
  rintro e w1 ⟨a, t, u, p, rfl, hf, hr, hg⟩
  clear hf
  (try clear z0 z0f z1 z1f z2 z2f z3 z3f)
  replace HG := hide (grown_trans (unhide HG) hg)
  replace HZ := hide ((unhide HZ).kg hg (by omega))
  replace HW := hide ((unhide HW).kg hg (by omega))
  replace HRd := hide hr
  clear hr hg
  have z0 := (unhide HZ).cell 0 rfl
  have z0f := (unhide HZ).frozen 0 rfl
  have z1 := (unhide HZ).cell 1 rfl
  have z1f := (unhide HZ).frozen 1 rfl
  have z2 := (unhide HZ).cell 2 rfl
  have z2f := (unhide HZ).frozen 2 rfl
  have z3 := (unhide HZ).cell 3 rfl
  have z3f := (unhide HZ).frozen 3 rfl
  have hwx := (unhide HZ).lt
  (try clear z0 z0f z1 z1f z2 z2f z3 z3f)
  have hzHX : r < w1.heap.size := (unhide HRd).lt
  replace HG := hide (grown_trans (unhide HG) (World.grownBy_alloc _ (.cells #[.int .i64 a, .int .i64 t, .int .i64 u, .int .i64 p] 25) _))
  replace HRd := hide ((unhide HRd).alloc (.cells #[.int .i64 a, .int .i64 t, .int .i64 u, .int .i64 p] 25))
  replace HZ := hide ((unhide HZ).bel (below_a (.cells #[.int .i64 a, .int .i64 t, .int .i64 u, .int .i64 p] 25)))
  replace HW := hide ((unhide HW).bel (below_a (.cells #[.int .i64 a, .int .i64 t, .int .i64 u, .int .i64 p] 25)))
  have HX := hide (box_new w1 [.int .i64 a, .int .i64 t, .int .i64 u, .int .i64 p] 25 (by simp [Value.oneCell']))
  have z0 := (unhide HZ).cell 0 rfl
  have z0f := (unhide HZ).frozen 0 rfl
  have z1 := (unhide HZ).cell 1 rfl
  have z1f := (unhide HZ).frozen 1 rfl
  have z2 := (unhide HZ).cell 2 rfl
  have z2f := (unhide HZ).frozen 2 rfl
  have z3 := (unhide HZ).cell 3 rfl
  have z3f := (unhide HZ).frozen 3 rfl
  have x0 := (unhide HX).cell 0 rfl
  have x0f := (unhide HX).frozen 0 rfl
  have x1 := (unhide HX).cell 1 rfl
  have x1f := (unhide HX).frozen 1 rfl
  have x2 := (unhide HX).cell 2 rfl
  have x2f := (unhide HX).frozen 2 rfl
  have x3 := (unhide HX).cell 3 rfl
  have x3f := (unhide HX).frozen 3 rfl
  go_wp2_with fail
  refine (c188 rs ar n cap _ (unhide HN) (by omega) (unhide HW).1).mono ?_
  rintro e w2 ⟨rfl, hb⟩
  (try clear z0 z0f z1 z1f z2 z2f z3 z3f x0 x0f x1 x1f x2 x2f x3 x3f)
  replace HG := hide (grown_bel (unhide HG) hb)
  replace HRd := hide ((unhide HRd).bel hb)
  replace HZ := hide ((unhide HZ).bel hb)
  replace HW := hide ((unhide HW).bel hb)
  replace HX := hide ((unhide HX).bel hb)
  clear hb
  have z0 := (unhide HZ).cell 0 rfl
  have z0f := (unhide HZ).frozen 0 rfl
  have z1 := (unhide HZ).cell 1 rfl
  have z1f := (unhide HZ).frozen 1 rfl
  have z2 := (unhide HZ).cell 2 rfl
  have z2f := (unhide HZ).frozen 2 rfl
  have z3 := (unhide HZ).cell 3 rfl
  have z3f := (unhide HZ).frozen 3 rfl
  have x0 := (unhide HX).cell 0 rfl
  have x0f := (unhide HX).frozen 0 rfl
  have x1 := (unhide HX).cell 1 rfl
  have x1f := (unhide HX).frozen 1 rfl
  have x2 := (unhide HX).cell 2 rfl
  have x2f := (unhide HX).frozen 2 rfl
  have x3 := (unhide HX).cell 3 rfl
  have x3f := (unhide HX).frozen 3 rfl
  rcases hok : Tm.ownOk rs with _ | _
  case false =>
    go_wp2_with fail
    exact bodyPost_ret (v := entV a t u p) (by simp [results, Try.results184, go_sem, z0, z1, z2, z3]) rfl ⟨_, _, _, _, rfl, (((((unhide HRd).oth _ hrl).oth _ hrl).oth _ hrl).oth _ hrl).mono (by omega), (grown_oth (grown_oth (grown_oth (grown_oth (unhide HG) _ (Nat.le_refl _)) _ (Nat.le_refl _)) _ (Nat.le_refl _)) _ (Nat.le_refl _))⟩
  go_wp2_with fail
  refine (c189 a t u p _).mono ?_
  rintro e w3 ⟨rfl, hb⟩
  (try clear z0 z0f z1 z1f z2 z2f z3 z3f x0 x0f x1 x1f x2 x2f x3 x3f)
  replace HG := hide (grown_bel (unhide HG) hb)
  replace HRd := hide ((unhide HRd).bel hb)
  replace HZ := hide ((unhide HZ).bel hb)
  replace HW := hide ((unhide HW).bel hb)
  replace HX := hide ((unhide HX).bel hb)
  clear hb
  have z0 := (unhide HZ).cell 0 rfl
  have z0f := (unhide HZ).frozen 0 rfl
  have z1 := (unhide HZ).cell 1 rfl
  have z1f := (unhide HZ).frozen 1 rfl
  have z2 := (unhide HZ).cell 2 rfl
  have z2f := (unhide HZ).frozen 2 rfl
  have z3 := (unhide HZ).cell 3 rfl
  have z3f := (unhide HZ).frozen 3 rfl
  have x0 := (unhide HX).cell 0 rfl
  have x0f := (unhide HX).frozen 0 rfl
  have x1 := (unhide HX).cell 1 rfl
  have x1f := (unhide HX).frozen 1 rfl
  have x2 := (unhide HX).cell 2 rfl
  have x2f := (unhide HX).frozen 2 rfl
  have x3 := (unhide HX).cell 3 rfl
  have x3f := (unhide HX).frozen 3 rfl
  rcases hke : Tm.entOk (a, t, u, p) with _ | _
  case false =>
    go_wp2_with fail
    exact bodyPost_ret (v := entV a t u p) (by simp [results, Try.results184, go_sem, z0, z1, z2, z3]) rfl ⟨_, _, _, _, rfl, (((((unhide HRd).oth _ hrl).oth _ hrl).oth _ hrl).oth _ hrl).mono (by omega), (grown_oth (grown_oth (grown_oth (grown_oth (unhide HG) _ (Nat.le_refl _)) _ (Nat.le_refl _)) _ (Nat.le_refl _)) _ (Nat.le_refl _))⟩
  go_wp2_with fail
  refine (c191 r (k + 7) 3 _ (by omega) (unhide HRd)).mono ?_
  rintro e w4 ⟨x, rfl, xa, xb, hr, hg⟩
  have xb := xb (by omega)
  (try clear z0 z0f z1 z1f z2 z2f z3 z3f x0 x0f x1 x1f x2 x2f x3 x3f)
  replace HG := hide (grown_trans (unhide HG) hg)
  replace HZ := hide ((unhide HZ).kg hg (by omega))
  replace HW := hide ((unhide HW).kg hg (by omega))
  replace HX := hide ((unhide HX).kg hg (by omega))
  replace HRd := hide hr
  clear hr hg
  have z0 := (unhide HZ).cell 0 rfl
  have z0f := (unhide HZ).frozen 0 rfl
  have z1 := (unhide HZ).cell 1 rfl
  have z1f := (unhide HZ).frozen 1 rfl
  have z2 := (unhide HZ).cell 2 rfl
  have z2f := (unhide HZ).frozen 2 rfl
  have z3 := (unhide HZ).cell 3 rfl
  have z3f := (unhide HZ).frozen 3 rfl
  have x0 := (unhide HX).cell 0 rfl
  have x0f := (unhide HX).frozen 0 rfl
  have x1 := (unhide HX).cell 1 rfl
  have x1f := (unhide HX).frozen 1 rfl
  have x2 := (unhide HX).cell 2 rfl
  have x2f := (unhide HX).frozen 2 rfl
  have x3 := (unhide HX).cell 3 rfl
  have x3f := (unhide HX).frozen 3 rfl
  by_cases h0 : x = 0
  case pos =>
    subst h0
    go_wp2_with fail
    exact bodyPost_ret (v := entV a t u p) (by simp [results, Try.results184, go_sem, z0, z1, z2, z3]) rfl ⟨_, _, _, _, rfl, (((((unhide HRd).oth _ hrl).oth _ hrl).oth _ hrl).oth _ hrl).mono (by omega), (grown_oth (grown_oth (grown_oth (grown_oth (unhide HG) _ (Nat.le_refl _)) _ (Nat.le_refl _)) _ (Nat.le_refl _)) _ (Nat.le_refl _))⟩
  have hx1 : 0 < x := by omega
  have hke2 := Tm.entOk_iff.1 hke
  dsimp only at hke2
  obtain ⟨j, rfl⟩ : ∃ j : Nat, t = (j : Int) := ⟨t.toNat, by omega⟩
  have hn8 : n = 8 := by rw [← unhide HN]; exact (Tm.ownOk_iff.1 hok).1
  subst hn8
  have hj8 : j < 8 := by omega
  obtain ⟨ra, rc, rd, hj⟩ := r_at (show j < rs.length by rw [unhide HN]; exact hj8)
  obtain ⟨b, off, rfl, hcc⟩ := (unhide HW).1.2 (by intro e; rw [e] at hj; simp at hj)
  obtain ⟨c0, c1, c2⟩ := r_cells (Below.refl _ _) hcc hj
  have hjI : (j : Int) < 8 := by omega
  have hj0 : (0 : Int) ≤ (j : Int) := by omega
  clear hcc hj hke2 hke hok h0
  have hgx : w1.heap.size < w4.heap.size := (unhide HX).lt
  have hwz : w.heap.size < w4.heap.size := (unhide HZ).lt
  by_cases hr0 : ra = 0
  case pos =>
    subst hr0
    clear HW
    go_wp2_with fail
    exact bodyPost_ret (v := entV 1 (j : Int) u 10) (by simp [results, Try.results184, go_sem, z0, z1, z2, z3, hwz, World.cell?_alloc_past]) rfl ⟨_, _, _, _, rfl, ((((((((unhide HRd).oth _ (show r < w1.heap.size by omega)).oth _ (show r < w1.heap.size by omega)).oth _ hrl).oth _ hrl).oth _ hrl).oth _ hrl).alloc _).mono (by omega), grown_trans (grown_oth (grown_oth (grown_oth (grown_oth (grown_oth (grown_oth (unhide HG) _ (show w.heap.size ≤ w1.heap.size by omega)) _ (show w.heap.size ≤ w1.heap.size by omega)) _ (Nat.le_refl _)) _ (Nat.le_refl _)) _ (Nat.le_refl _)) _ (Nat.le_refl _)) (World.grownBy_alloc _ _ _)⟩
  have hb0 : (ra == 0) = false := by rw [beq_eq_false_iff_ne]; exact hr0
  clear hr0
  go_wp2_with fail
  clear HW c0 c1 c2
  (try clear z0 z0f z1 z1f z2 z2f z3 z3f x0 x0f x1 x1f x2 x2f x3 x3f)
  have hzHY : r < w4.heap.size := (unhide HRd).lt
  replace HG := hide (grown_trans (unhide HG) (World.grownBy_alloc _ (.cells #[.int .i64 ra, .int .i64 rc, .bool rd] 34) _))
  replace HRd := hide ((unhide HRd).alloc (.cells #[.int .i64 ra, .int .i64 rc, .bool rd] 34))
  replace HZ := hide ((unhide HZ).bel (below_a (.cells #[.int .i64 ra, .int .i64 rc, .bool rd] 34)))
  replace HX := hide ((unhide HX).bel (below_a (.cells #[.int .i64 ra, .int .i64 rc, .bool rd] 34)))
  have HY := hide (box_new w4 [.int .i64 ra, .int .i64 rc, .bool rd] 34 (by simp [Value.oneCell']))
  have z0 := (unhide HZ).cell 0 rfl
  have z0f := (unhide HZ).frozen 0 rfl
  have z1 := (unhide HZ).cell 1 rfl
  have z1f := (unhide HZ).frozen 1 rfl
  have z2 := (unhide HZ).cell 2 rfl
  have z2f := (unhide HZ).frozen 2 rfl
  have z3 := (unhide HZ).cell 3 rfl
  have z3f := (unhide HZ).frozen 3 rfl
  have x0 := (unhide HX).cell 0 rfl
  have x0f := (unhide HX).frozen 0 rfl
  have x1 := (unhide HX).cell 1 rfl
  have x1f := (unhide HX).frozen 1 rfl
  have x2 := (unhide HX).cell 2 rfl
  have x2f := (unhide HX).frozen 2 rfl
  have x3 := (unhide HX).cell 3 rfl
  have x3f := (unhide HX).frozen 3 rfl
  have y0 := (unhide HY).cell 0 rfl
  have y1 := (unhide HY).cell 1 rfl
  have y2 := (unhide HY).cell 2 rfl
  refine (c191 r (k + 7 + 1) 2 _ (by omega) (unhide HRd)).mono ?_
  rintro e w5 ⟨y, rfl, ya, yb, hr, hg⟩
  have yb := yb (by omega)
  (try clear z0 z0f z1 z1f z2 z2f z3 z3f x0 x0f x1 x1f x2 x2f x3 x3f y0 y1 y2)
  replace HG := hide (grown_trans (unhide HG) hg)
  replace HZ := hide ((unhide HZ).kg hg (by omega))
  replace HX := hide ((unhide HX).kg hg (by omega))
  replace HY := hide ((unhide HY).kg hg (by omega))
  replace HRd := hide hr
  clear hr hg
  have z0 := (unhide HZ).cell 0 rfl
  have z0f := (unhide HZ).frozen 0 rfl
  have z1 := (unhide HZ).cell 1 rfl
  have z1f := (unhide HZ).frozen 1 rfl
  have z2 := (unhide HZ).cell 2 rfl
  have z2f := (unhide HZ).frozen 2 rfl
  have z3 := (unhide HZ).cell 3 rfl
  have z3f := (unhide HZ).frozen 3 rfl
  have x0 := (unhide HX).cell 0 rfl
  have x0f := (unhide HX).frozen 0 rfl
  have x1 := (unhide HX).cell 1 rfl
  have x1f := (unhide HX).frozen 1 rfl
  have x2 := (unhide HX).cell 2 rfl
  have x2f := (unhide HX).frozen 2 rfl
  have x3 := (unhide HX).cell 3 rfl
  have x3f := (unhide HX).frozen 3 rfl
  have y0 := (unhide HY).cell 0 rfl
  have y1 := (unhide HY).cell 1 rfl
  have y2 := (unhide HY).cell 2 rfl
  by_cases h2 : y = 0
  case pos =>
    subst h2
    go_wp2_with fail
    exact bodyPost_ret (v := entV 3 (j : Int) ra 0) (by simp [results, Try.results184, go_sem, z0, z1, z2, z3]) rfl ⟨_, _, _, _, rfl, (((((((((unhide HRd).oth _ (show r < w1.heap.size by omega)).oth _ (show r < w1.heap.size by omega)).oth _ (show r < w1.heap.size by omega)).oth _ (show r < w1.heap.size by omega)).oth _ hrl).oth _ hrl).oth _ hrl).oth _ hrl).mono (by omega), (grown_oth (grown_oth (grown_oth (grown_oth (grown_oth (grown_oth (grown_oth (grown_oth (unhide HG) _ (show w.heap.size ≤ w1.heap.size by omega)) _ (show w.heap.size ≤ w1.heap.size by omega)) _ (show w.heap.size ≤ w1.heap.size by omega)) _ (show w.heap.size ≤ w1.heap.size by omega)) _ (Nat.le_refl _)) _ (Nat.le_refl _)) _ (Nat.le_refl _)) _ (Nat.le_refl _))⟩
  have hb2 : (y == 0) = false := by rw [beq_eq_false_iff_ne]; exact h2
  clear h2
  go_wp2_with fail
  refine (c156 rc _).mono ?_
  rintro e q1 ⟨rfl, hww⟩
  have hww := hww.symm
  subst hww
  have hcf : 0 ≤ Tm.cap rc ∧ Tm.cap rc ≤ 60 := by unfold Tm.cap; split <;> omega
  generalize Tm.cap rc = cf at *
  go_wp2_with fail
  have HRd3 := hide ((unhide HRd).oth (i := 0) (g := w1.heap.size) (.int .i64 2) (by omega))
  have HG3 := hide (grown_oth (i := 0) (g := w1.heap.size) (unhide HG) (.int .i64 2) (by omega))
  have HZ3 := hide ((unhide HZ).oth (i := 0) (g' := w1.heap.size) (.int .i64 2) (by omega))
  have hX3 : Box _ _ [.int .i64 2, .int .i64 (j : Int), .int .i64 u, .int .i64 p] := box_put (unhide HX) 0 (.int .i64 2) (by simp)
  have HX3 := hide hX3
  (try clear z0 z0f z1 z1f z2 z2f z3 z3f x0 x0f x1 x1f x2 x2f x3 x3f y0 y1 y2)
  clear HRd HG HZ HX HY hX3
  have HRd := HRd3
  have HG := HG3
  have HZ := HZ3
  have HX := HX3
  clear HRd3 HG3 HZ3 HX3
  refine (c191 r (k + 7 + 1 + 1) 2 _ (by omega) (unhide HRd)).mono ?_
  rintro e w7 ⟨z, rfl, za, zb, hr, hg⟩
  have zb := zb (by omega)
  (try clear z0 z0f z1 z1f z2 z2f z3 z3f x0 x0f x1 x1f x2 x2f x3 x3f)
  replace HG := hide (grown_trans (unhide HG) hg)
  replace HZ := hide ((unhide HZ).kg hg (by omega))
  replace HX := hide ((unhide HX).kg hg (by omega))
  replace HRd := hide hr
  clear hr hg
  have z0 := (unhide HZ).cell 0 rfl
  have z0f := (unhide HZ).frozen 0 rfl
  have z1 := (unhide HZ).cell 1 rfl
  have z1f := (unhide HZ).frozen 1 rfl
  have z2 := (unhide HZ).cell 2 rfl
  have z2f := (unhide HZ).frozen 2 rfl
  have z3 := (unhide HZ).cell 3 rfl
  have z3f := (unhide HZ).frozen 3 rfl
  have x0 := (unhide HX).cell 0 rfl
  have x0f := (unhide HX).frozen 0 rfl
  have x1 := (unhide HX).cell 1 rfl
  have x1f := (unhide HX).frozen 1 rfl
  have x2 := (unhide HX).cell 2 rfl
  have x2f := (unhide HX).frozen 2 rfl
  have x3 := (unhide HX).cell 3 rfl
  have x3f := (unhide HX).frozen 3 rfl
  go_wp2_with fail
  exact bodyPost_ret (v := entV 2 (j : Int) u (cf + z)) (by simp [results, Try.results184, go_sem, z0, z1, z2, z3]) rfl ⟨_, _, _, _, rfl, ((((((unhide HRd).oth _ (show r < w1.heap.size by omega)).oth _ hrl).oth _ hrl).oth _ hrl).oth _ hrl).mono (by omega), (grown_oth (grown_oth (grown_oth (grown_oth (grown_oth (unhide HG) _ (show w.heap.size ≤ w1.heap.size by omega)) _ (Nat.le_refl _)) _ (Nat.le_refl _)) _ (Nat.le_refl _)) _ (Nat.le_refl _))⟩

set_option maxHeartbeats 8000000 in
theorem c110 (bs : List Int) (ao : Option Addr) (n cap : Nat) (w : World) (hn : bs.length = n) (hc : n ≤ cap) (hm : cap ≤ maxLen) (hB : Bytes w ao bs) :
    Calls Try.prog 110 #[.slice ao n cap] w (RowsE w) := by
  have HB := hide (Below.refl w.heap.size w)
  have HBY := hide hB
  clear hB
  replace HB := hide (below_al (o := .cells #[.int .i64 0, .int .i64 0, .int .i64 0, .int .i64 0] 25) (unhide HB))
  replace HBY := hide ((unhide HBY).bel (below_a (.cells #[.int .i64 0, .int .i64 0, .int .i64 0, .int .i64 0] 25)))
  have HZ := hide (box_new w [.int .i64 0, .int .i64 0, .int .i64 0, .int .i64 0] 25 (by simp [Value.oneCell']))
  (try simp only [World.size_alloc] at HZ)
  have z0 := (unhide HZ).cell 0 rfl
  have z0f := (unhide HZ).frozen 0 rfl
  have z1 := (unhide HZ).cell 1 rfl
  have z1f := (unhide HZ).frozen 1 rfl
  have z2 := (unhide HZ).cell 2 rfl
  have z2f := (unhide HZ).frozen 2 rfl
  have z3 := (unhide HZ).cell 3 rfl
  have z3f := (unhide HZ).frozen 3 rfl
  go_enter Try.func110, Try.ntmps110
  go_wp2_with fail
  refine (c119 bs ao n cap _ hn hc hm (unhide HBY)).mono ?_
  rintro e w1 ⟨rfl, hr, hb, hl1⟩
  (try clear z0 z0f z1 z1f z2 z2f z3 z3f)
  clear HBY
  replace HB := hide (below_tr (unhide HB) hb)
  replace HZ := hide ((unhide HZ).bel hb)
  (try simp only [World.size_alloc] at hr hl1)
  (try simp only [World.size_alloc])
  generalize hrr : w.heap.size + 1 = r at *
  have HRd := hide hr
  have HRR := hide hrr
  have hwr : w.heap.size ≤ r := by omega
  have hne0 : r ≠ w.heap.size := by omega
  clear hr hb hrr
  have z0 := (unhide HZ).cell 0 rfl
  have z0f := (unhide HZ).frozen 0 rfl
  have z1 := (unhide HZ).cell 1 rfl
  have z1f := (unhide HZ).frozen 1 rfl
  have z2 := (unhide HZ).cell 2 rfl
  have z2f := (unhide HZ).frozen 2 rfl
  have z3 := (unhide HZ).cell 3 rfl
  have z3f := (unhide HZ).frozen 3 rfl
  go_wp2_with fail
  refine (c183 r (0) 12 _ (by omega) (by omega) (unhide HRd)).mono ?_
  rintro e w2 ⟨ars, nrs, crs, rs, rfl, hnrs, h8rs, hcrs, hzrs, hrw, hr, hg⟩
  have hbasers : r < w1.heap.size := (unhide HRd).lt
  (try clear z0 z0f z1 z1f z2 z2f z3 z3f)
  replace HB := hide (below_gr (unhide HB) hg (by omega))
  replace HZ := hide ((unhide HZ).kg hg (by omega))
  replace HRd := hide hr
  clear hr hg
  have HW := hide hrw
  clear hrw
  have z0 := (unhide HZ).cell 0 rfl
  have z0f := (unhide HZ).frozen 0 rfl
  have z1 := (unhide HZ).cell 1 rfl
  have z1f := (unhide HZ).frozen 1 rfl
  have z2 := (unhide HZ).cell 2 rfl
  have z2f := (unhide HZ).frozen 2 rfl
  have z3 := (unhide HZ).cell 3 rfl
  have z3f := (unhide HZ).frozen 3 rfl
  go_wp2_with fail
  refine (c184 r (0 + 270) rs ars nrs crs _ _ (by omega) (unhide HRd) hnrs h8rs hbasers (unhide HW)).mono ?_
  rintro e w3 ⟨a, t, u, p, rfl, hr, hg⟩
  (try clear z0 z0f z1 z1f z2 z2f z3 z3f)
  replace HB := hide (below_gr (unhide HB) hg (by omega))
  replace HZ := hide ((unhide HZ).kg hg (by omega))
  replace HW := hide ((unhide HW).kg hg (by omega))
  replace HRd := hide hr
  clear hr hg
  have z0 := (unhide HZ).cell 0 rfl
  have z0f := (unhide HZ).frozen 0 rfl
  have z1 := (unhide HZ).cell 1 rfl
  have z1f := (unhide HZ).frozen 1 rfl
  have z2 := (unhide HZ).cell 2 rfl
  have z2f := (unhide HZ).frozen 2 rfl
  have z3 := (unhide HZ).cell 3 rfl
  have z3f := (unhide HZ).frozen 3 rfl
  go_wp2_with fail
  exact bodyPost_ret (v := .tuple #[.slice ars nrs crs, entV a t u p]) (by simp [results, Try.results110, go_sem, z0, z1, z2, z3]) rfl ⟨_, _, _, rs, _, _, _, _, rfl, hnrs, h8rs, hcrs, hzrs, ((((unhide HW).oth _ (by omega)).oth _ (by omega)).oth _ (by omega)).oth _ (by omega) |>.1, (below_sc (below_sc (below_sc (below_sc (unhide HB) (by dsimp only; omega)) (by dsimp only; omega)) (by dsimp only; omega)) (by dsimp only; omega))⟩
end Go.Proofs.Ytdpkdcdieajkbaa
