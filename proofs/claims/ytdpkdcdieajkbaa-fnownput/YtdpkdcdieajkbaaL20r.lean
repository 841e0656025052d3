/-
  The draw of how all tickets stand.
-/
import Derived.Test.YtdpkdcdieajkbaaDrg
import Derived.Test.YtdpkdcdieajkbaaOwl
import Derived.Test.YtdpkdcdieajkbaaDrw
namespace Go.Proofs.Ytdpkdcdieajkbaa
open Go.RowKit
set_option linter.unusedVariables false
set_option maxRecDepth 100000

/-- rows in memory, in no block below a base -/
def RRowA (w : World) (base : Nat) (ao : Option Addr) (rs : List Tm.Rw) : Prop := RRow w ao rs ∧ ∀ a, ao = some a → base ≤ a.block
theorem RRowA.bel {w w' : World} {base : Nat} {ao : Option Addr} {rs : List Tm.Rw} (h : RRowA w base ao rs) (hb : Below w.heap.size w w') : RRowA w' base ao rs := ⟨h.1.bel hb, h.2⟩
theorem RRowA.kg {w w' : World} {base r : Nat} {ao : Option Addr} {rs : List Tm.Rw} (h : RRowA w base ao rs) (hg : w.grownBy w' (some r)) (hr : r < base) : RRowA w' base ao rs := ⟨h.1.kpt hg (fun a ha e => by have := h.2 a ha; simp only [Option.some.injEq] at e; omega), h.2⟩
theorem RRowA.oth {w : World} {base g i : Nat} {ao : Option Addr} {rs : List Tm.Rw} (h : RRowA w base ao rs) (v : Value) (hr : g < base) : RRowA (w.setCell ⟨g, i, none⟩ v) base ao rs := h.kg (grown_cel w g i v) hr
theorem RRowA.mono {w : World} {base base' : Nat} {ao : Option Addr} {rs : List Tm.Rw} (h : RRowA w base ao rs) (hb : base' ≤ base) : RRowA w base' ao rs := ⟨h.1, fun a ha => Nat.le_trans hb (h.2 a ha)⟩
theorem RRow.drop1 {w : World} {b off : Nat} {rs : List Tm.Rw} (h : RRow w (some ⟨b, off, none⟩) rs) : RRow w (some ⟨b, off + 3, none⟩) (rs.drop 1) := by
  refine ⟨fun r hr => h.1 r (List.mem_of_mem_drop hr), fun hne => ?_⟩
  cases rs with
  | nil => simp at hne
  | cons x xs =>
    obtain ⟨b', off', he, hc⟩ := h.2 (by simp)
    cases he
    refine ⟨b, off + 3, rfl, fun j v hv => ?_⟩
    have h2 : ((x :: xs).flatMap rCells)[3 + j]? = some v := by
      rw [List.flatMap_cons, List.getElem?_append_right (by rw [rCells_len]; omega), rCells_len, show 3 + j - 3 = j by omega]
      exact hv
    have := hc _ _ h2
    rw [show off + (3 + j) = off + 3 + j by omega] at this
    exact this
/-- what a draw of rows leaves -/
def RowsD (w : World) (r k : Nat) (e : Ending) (w' : World) : Prop :=
  ∃ (ao : Option Addr) (n cap : Nat) (rs : List Tm.Rw), e = .returned (.slice ao n cap) ∧ rs.length = n ∧ n ≤ 8 ∧ n ≤ cap ∧ (ao = none → cap = 0) ∧ RRowA w' w.heap.size ao rs ∧ Rd w' r k ∧ w.grownBy w' (some r)
theorem flat_face {rs : List Tm.Rw} {j : Nat} {a c : Int} {d : Bool} (hj : rs[j]? = some (a, c, d)) (x : Int) : (rs.flatMap rCells).set (j * 3 + 1) (.int .i64 x) = (rs.set j (a, x, d)).flatMap rCells := by
  obtain ⟨h0, h1, h2⟩ := flat_get hj
  rw [← flat_set rCells 3 rCells_len rs j (a, x, d) (lt_of_get hj)]
  show _ = (((rs.flatMap rCells).set (j * 3) (.int .i64 a)).set (j * 3 + 1) (.int .i64 x)).set (j * 3 + 1 + 1) (.bool d)
  rw [set_same h0, set_same (i := j * 3 + 1 + 1) (by rw [List.getElem?_set_ne (by omega)]; exact h2)]
/-- one cell of rows that were made is written -/
theorem rown_cell {w : World} {base g n cap i : Nat} {rs rs' : List Tm.Rw} {x : Value} (hn : rs.length = n) (h : ROwn w base (.slice (some ⟨g, 0, none⟩) n cap) rs) (hl : rs'.length = rs.length) (hf : ∀ r ∈ rs', FitR r) (he : (rs.flatMap rCells).set i x = rs'.flatMap rCells) :
    ROwn (w.setCell ⟨g, i, none⟩ x) base (.slice (some ⟨g, 0, none⟩) n cap) rs' := by
  subst hn
  obtain ⟨f, t, h2⟩ := h
  have hst := (h2.stored i x).1
  rw [he] at hst
  exact ⟨hf, t, by rw [hl]; exact hst⟩
theorem fit_set {rs : List Tm.Rw} {j : Nat} {x : Tm.Rw} (h : ∀ r ∈ rs, FitR r) (hx : FitR x) : ∀ r ∈ rs.set j x, FitR r := by
  intro r hr
  rcases List.mem_or_eq_of_mem_set hr with h1 | h1
  · exact h r h1
  · subst h1; exact hx
/-- where eight rows that were made lie -/
theorem rown_at {w : World} {base n cap : Nat} {ao : Option Addr} {rs : List Tm.Rw} (h : ROwn w base (.slice ao n cap) rs) (h8 : rs.length = 8) : ∃ g, ao = some ⟨g, 0, none⟩ ∧ base ≤ g ∧ 8 ≤ cap := by
  obtain ⟨f, t, h2⟩ := h
  rcases h2.2 with ⟨hv, hz⟩ | ⟨g', cap', cur, hv, hb, hh, hnc, rr⟩
  · omega
  · cases hv; exact ⟨g', rfl, hb, by omega⟩
theorem rown_cells {w : World} {base g n cap j : Nat} {rs : List Tm.Rw} {a c : Int} {d : Bool} (hn : rs.length = n) (h : ROwn w base (.slice (some ⟨g, 0, none⟩) n cap) rs) (hj : rs[j]? = some (a, c, d)) :
    (w.cell? ⟨g, j * 3, none⟩ = some (.int .i64 a) ∧ w.cell? ⟨g, j * 3 + 1, none⟩ = some (.int .i64 c) ∧ w.cell? ⟨g, j * 3 + 2, none⟩ = some (.bool d)) ∧ w.frozen? ⟨g, j * 3, none⟩ = false ∧ w.frozen? ⟨g, j * 3 + 1, none⟩ = false ∧ w.frozen? ⟨g, j * 3 + 2, none⟩ = false := by
  subst hn
  obtain ⟨f, t, h2⟩ := h
  obtain ⟨f0, f1, f2⟩ := flat_get hj
  have hjl := lt_of_get hj
  exact ⟨⟨by rw [h2.cellAt (j * 3) (by omega)]; exact f0, by rw [h2.cellAt (j * 3 + 1) (by omega)]; exact f1, by rw [h2.cellAt (j * 3 + 2) (by omega)]; exact f2⟩, h2.frozenAt _, h2.frozenAt _, h2.frozenAt _⟩

set_option maxHeartbeats 8000000 in
theorem c183 (r k : Nat) (n : Int) (w : World) (hk : k ≤ 600000) (hn : 1 ≤ n ∧ n ≤ 1000000) (h : Rd w r k) :
    Calls Try.prog 183 #[.pointer (some ⟨r, 0, none⟩), .int .i64 n] w (RowsD w r (k + 270)) := by
  have hrl := h.lt
  have HN := hide hn
  have HRd := hide h
  have HG := hide (World.grownBy.refl w (some r))
  clear h hn
  go_enter Try.func183, Try.ntmps183
  go_wp2_with fail
  refine (c120 r (k) 99999 _ (by omega) (by omega) (unhide HRd)).mono ?_
  rintro e w1 ⟨v, es, rfl, hesl, ho, hr, hg⟩
  obtain ⟨al, capl, rfl, hcl, -, -⟩ := ho.row
  replace HG := hide (grown_trans (unhide HG) hg)
  replace HRd := hide hr
  clear hr hg
  have HO := hide ho
  clear ho
  go_wp2_with fail
  generalize hrs : foldRows es = rs at *
  generalize hfb : foldIs es = fb at *
  have hl8 : rs.length ≤ 8 := by rw [← hrs]; exact foldRows_len es
  have HRS := hide hrs
  have HFB := hide hfb
  clear hrs hfb
  refine (c154 es al es.length capl _ rfl (by omega) ((unhide HO).rd rfl)).mono ?_
  rintro e w2 ⟨v, rfl, ho, hb⟩
  rw [unhide HRS] at ho
  rw [unhide HFB]
  have ho := ho.mono (unhide HG).size
  obtain ⟨ar, capr, rfl, hcr, -, -⟩ := ho.row
  replace HG := hide (grown_bel (unhide HG) hb)
  replace HRd := hide ((unhide HRd).bel hb)
  clear HO
  have HW := hide (ho)
  clear hb ho
  clear HRS HFB
  by_cases hl : rs.length = 8
  case pos =>
    have hnl : ((rs.length : Int) != 8) = false := by rw [hl]; rfl
    obtain ⟨g, rfl, hgb, hc8⟩ := rown_at (unhide HW) hl
    rw [hl]
    have HWL := hide hl
    replace HW : Hid (ROwn w2 w.heap.size (.slice (some ⟨g, 0, none⟩) 8 capr) rs) := by have h := unhide HW; rw [hl] at h; exact h
    clear hl
    go_wp2_with fail
    refine (c124 r (k + 260) n _ (by omega) (unhide HN) (unhide HRd)).mono ?_
    rintro e w3 ⟨b1, rfl, hr, hg⟩
    replace HG := hide (grown_trans (unhide HG) hg)
    replace HW := hide ((unhide HW).kg hg (by omega))
    replace HRd := hide hr
    clear hr hg
    cases b1
    case false =>
      go_wp2_with fail
      go_ret
      exact ⟨_, 8, _, rs, rfl, unhide HWL, by omega, by omega, by simp, ⟨(unhide HW).rrow2, fun a ha => by cases ha; exact hgb⟩, (unhide HRd).mono (by omega), unhide HG⟩
    go_wp2_with fail
    refine (c191 r (k + 260 + 1) 8 _ (by omega) (unhide HRd)).mono ?_
    rintro e w4 ⟨x, rfl, xa, xb, hr, hg⟩
    have xb := xb (by omega)
    replace HG := hide (grown_trans (unhide HG) hg)
    replace HW := hide ((unhide HW).kg hg (by omega))
    replace HRd := hide hr
    clear hr hg
    go_wp2_with fail
    obtain ⟨kN, rfl⟩ := Int.eq_ofNat_of_zero_le xa
    refine (c191 r (k + 260 + 1 + 1) 4 _ (by omega) (unhide HRd)).mono ?_
    rintro e w5 ⟨y, rfl, ya, yb, hr, hg⟩
    have yb := yb (by omega)
    replace HG := hide (grown_trans (unhide HG) hg)
    replace HW := hide ((unhide HW).kg hg (by omega))
    replace HRd := hide hr
    clear hr hg
    have hkl : kN < rs.length := by rw [unhide HWL]; omega
    obtain ⟨ra, rc, rd, hj⟩ := r_at hkl
    have HJ := hide hj
    clear hj
    by_cases h0 : y = 0
    case pos =>
      subst h0
      go_wp2_with fail
      refine (pick_lit r (k + 260 + 1 + 1 + 1) 3 _ _ (by omega) (by omega) (unhide HRd)).mono ?_
      rintro e w6 ⟨z, rfl, hz, hz2', hr, hg, hlt⟩
      obtain ⟨zN, yy, rfl, hzN, hy, hcy⟩ := lit_val (l := [-1, 6, 0]) hlt hz (by simpa using hz2')
      (try simp only [World.size_alloc] at hcy)
      have hyf : -9223372036854775808 ≤ yy ∧ yy ≤ 9223372036854775807 := by simp at hy; omega
      replace HG := hide (grown_trans (unhide HG) hg)
      replace HW := hide ((unhide HW).kg hg (by omega))
      replace HRd := hide hr
      clear hr hg
      clear hlt hy
      obtain ⟨⟨c0, c1, c2⟩, q0, q1, q2⟩ := rown_cells (unhide HWL) (unhide HW) (unhide HJ)
      have HFS := (unhide HW).1
      have HW2 := hide (rown_cell (i := kN * 3) (x := .int .i64 yy) (rs' := rs.set kN (yy, rc, rd)) (unhide HWL) (unhide HW) (by simp) (fit_set HFS ⟨hyf, (HFS _ (mem_at (unhide HJ))).2⟩) (flat_who (unhide HJ) yy))
      have hgr := (unhide HRd).lt
      have HRd2 := hide ((unhide HRd).oth (g := g) (i := kN * 3) (.int .i64 yy) (by omega))
      have HG2 := hide (grown_oth (g := g) (i := kN * 3) (unhide HG) (.int .i64 yy) hgb)
      clear HW HRd HG HFS
      go_wp2_with fail
      go_ret
      exact ⟨_, 8, _, rs.set kN (yy, rc, rd), rfl, by rw [List.length_set]; exact unhide HWL, by omega, by omega, by simp, ⟨(unhide HW2).rrow2, fun a ha => by cases ha; exact hgb⟩, (unhide HRd2).mono (by omega), unhide HG2⟩
    have d0 : (y == 0) = false := by rw [beq_eq_false_iff_ne]; exact h0
    by_cases h1 : y = 1
    case pos =>
      subst h1
      go_wp2_with fail
      refine (pick_lit r (k + 260 + 1 + 1 + 1) 3 _ _ (by omega) (by omega) (unhide HRd)).mono ?_
      rintro e w6 ⟨z, rfl, hz, hz2', hr, hg, hlt⟩
      obtain ⟨zN, yy, rfl, hzN, hy, hcy⟩ := lit_val (l := [0, -1, 51]) hlt hz (by simpa using hz2')
      (try simp only [World.size_alloc] at hcy)
      have hyf : -9223372036854775808 ≤ yy ∧ yy ≤ 9223372036854775807 := by simp at hy; omega
      replace HG := hide (grown_trans (unhide HG) hg)
      replace HW := hide ((unhide HW).kg hg (by omega))
      replace HRd := hide hr
      clear hr hg
      clear hlt hy
      obtain ⟨⟨c0, c1, c2⟩, q0, q1, q2⟩ := rown_cells (unhide HWL) (unhide HW) (unhide HJ)
      have HFS := (unhide HW).1
      have HW2 := hide (rown_cell (i := kN * 3 + 1) (x := .int .i64 yy) (rs' := rs.set kN (ra, yy, rd)) (unhide HWL) (unhide HW) (by simp) (fit_set HFS ⟨(HFS _ (mem_at (unhide HJ))).1, hyf⟩) (flat_face (unhide HJ) yy))
      have hgr := (unhide HRd).lt
      have HRd2 := hide ((unhide HRd).oth (g := g) (i := kN * 3 + 1) (.int .i64 yy) (by omega))
      have HG2 := hide (grown_oth (g := g) (i := kN * 3 + 1) (unhide HG) (.int .i64 yy) hgb)
      clear HW HRd HG HFS
      go_wp2_with fail
      go_ret
      exact ⟨_, 8, _, rs.set kN (ra, yy, rd), rfl, by rw [List.length_set]; exact unhide HWL, by omega, by omega, by simp, ⟨(unhide HW2).rrow2, fun a ha => by cases ha; exact hgb⟩, (unhide HRd2).mono (by omega), unhide HG2⟩
    have d1 : (y == 1) = false := by rw [beq_eq_false_iff_ne]; exact h1
    by_cases h2 : y = 2
    case pos =>
      subst h2
      obtain ⟨⟨c0, c1, c2⟩, q0, q1, q2⟩ := rown_cells (unhide HWL) (unhide HW) (unhide HJ)
      have HFS := (unhide HW).1
      have HW2 := hide (rown_cell (i := kN * 3 + 2) (x := .bool (!rd)) (rs' := rs.set kN (ra, rc, !rd)) (unhide HWL) (unhide HW) (by simp) (fit_set HFS ⟨(HFS (ra, rc, rd) (mem_at (unhide HJ))).1, (HFS (ra, rc, rd) (mem_at (unhide HJ))).2⟩) (flat_used (unhide HJ) (!rd)))
      have HRd2 := hide ((unhide HRd).oth (g := g) (i := kN * 3 + 2) (.bool (!rd)) (by omega))
      have HG2 := hide (grown_oth (g := g) (i := kN * 3 + 2) (unhide HG) (.bool (!rd)) hgb)
      clear HW HRd HG HFS
      go_wp2_with fail
      go_ret
      exact ⟨_, 8, _, rs.set kN (ra, rc, !rd), rfl, by rw [List.length_set]; exact unhide HWL, by omega, by omega, by simp, ⟨(unhide HW2).rrow2, fun a ha => by cases ha; exact hgb⟩, (unhide HRd2).mono (by omega), unhide HG2⟩
    have d2 : (y == 2) = false := by rw [beq_eq_false_iff_ne]; exact h2
    clear h0 h1 h2
    have hcc : ¬ ((capr : Int) = 1) := by omega
    have hcc2 : ¬ (capr = 1) := by omega
    have HD := hide ((unhide HW).rrow2).drop1
    go_wp2_with fail
    go_ret
    exact ⟨_, 7, _, rs.drop 1, rfl, by rw [List.length_drop, unhide HWL], by omega, by omega, by simp, ⟨unhide HD, fun a ha => by cases ha; exact hgb⟩, (unhide HRd).mono (by omega), unhide HG⟩
  have hnl : ((rs.length : Int) != 8) = true := by rw [bne_iff_ne]; omega
  clear HW
  go_wp2_with fail
  refine (c190 _).mono ?_
  rintro e w3 ⟨v, rfl, ho, hb⟩
  have ho := ho.mono (unhide HG).size
  clear hcr hl hl8 hnl
  obtain ⟨ar, capr, rfl, hcr, -, -⟩ := ho.row
  replace HG := hide (grown_bel (unhide HG) hb)
  replace HRd := hide ((unhide HRd).bel hb)
  have HW := hide (ho)
  clear hb ho
  have hl : Tm.none8.length = 8 := rfl
  generalize Tm.none8 = rs at *
  obtain ⟨g, rfl, hgb, hc8⟩ := rown_at (unhide HW) hl
  rw [hl]
  have HWL := hide hl
  replace HW : Hid (ROwn w3 w.heap.size (.slice (some ⟨g, 0, none⟩) 8 capr) rs) := by have h := unhide HW; rw [hl] at h; exact h
  clear hl
  go_wp2_with fail
  refine (c124 r (k + 260) n _ (by omega) (unhide HN) (unhide HRd)).mono ?_
  rintro e w4 ⟨b1, rfl, hr, hg⟩
  replace HG := hide (grown_trans (unhide HG) hg)
  replace HW := hide ((unhide HW).kg hg (by omega))
  replace HRd := hide hr
  clear hr hg
  cases b1
  case false =>
    go_wp2_with fail
    go_ret
    exact ⟨_, 8, _, rs, rfl, unhide HWL, by omega, by omega, by simp, ⟨(unhide HW).rrow2, fun a ha => by cases ha; exact hgb⟩, (unhide HRd).mono (by omega), unhide HG⟩
  go_wp2_with fail
  refine (c191 r (k + 260 + 1) 8 _ (by omega) (unhide HRd)).mono ?_
  rintro e w5 ⟨x, rfl, xa, xb, hr, hg⟩
  have xb := xb (by omega)
  replace HG := hide (grown_trans (unhide HG) hg)
  replace HW := hide ((unhide HW).kg hg (by omega))
  replace HRd := hide hr
  clear hr hg
  go_wp2_with fail
  obtain ⟨kN, rfl⟩ := Int.eq_ofNat_of_zero_le xa
  refine (c191 r (k + 260 + 1 + 1) 4 _ (by omega) (unhide HRd)).mono ?_
  rintro e w6 ⟨y, rfl, ya, yb, hr, hg⟩
  have yb := yb (by omega)
  replace HG := hide (grown_trans (unhide HG) hg)
  replace HW := hide ((unhide HW).kg hg (by omega))
  replace HRd := hide hr
  clear hr hg
  have hkl : kN < rs.length := by rw [unhide HWL]; omega
  obtain ⟨ra, rc, rd, hj⟩ := r_at hkl
  have HJ := hide hj
  clear hj
  by_cases h0 : y = 0
  case pos =>
    subst h0
    go_wp2_with fail
    refine (pick_lit r (k + 260 + 1 + 1 + 1) 3 _ _ (by omega) (by omega) (unhide HRd)).mono ?_
    rintro e w7 ⟨z, rfl, hz, hz2', hr, hg, hlt⟩
    obtain ⟨zN, yy, rfl, hzN, hy, hcy⟩ := lit_val (l := [-1, 6, 0]) hlt hz (by simpa using hz2')
    (try simp only [World.size_alloc] at hcy)
    have hyf : -9223372036854775808 ≤ yy ∧ yy ≤ 9223372036854775807 := by simp at hy; omega
    replace HG := hide (grown_trans (unhide HG) hg)
    replace HW := hide ((unhide HW).kg hg (by omega))
    replace HRd := hide hr
    clear hr hg
    clear hlt hy
    obtain ⟨⟨c0, c1, c2⟩, q0, q1, q2⟩ := rown_cells (unhide HWL) (unhide HW) (unhide HJ)
    have HFS := (unhide HW).1
    have HW2 := hide (rown_cell (i := kN * 3) (x := .int .i64 yy) (rs' := rs.set kN (yy, rc, rd)) (unhide HWL) (unhide HW) (by simp) (fit_set HFS ⟨hyf, (HFS _ (mem_at (unhide HJ))).2⟩) (flat_who (unhide HJ) yy))
    have hgr := (unhide HRd).lt
    have HRd2 := hide ((unhide HRd).oth (g := g) (i := kN * 3) (.int .i64 yy) (by omega))
    have HG2 := hide (grown_oth (g := g) (i := kN * 3) (unhide HG) (.int .i64 yy) hgb)
    clear HW HRd HG HFS
    go_wp2_with fail
    go_ret
    exact ⟨_, 8, _, rs.set kN (yy, rc, rd), rfl, by rw [List.length_set]; exact unhide HWL, by omega, by omega, by simp, ⟨(unhide HW2).rrow2, fun a ha => by cases ha; exact hgb⟩, (unhide HRd2).mono (by omega), unhide HG2⟩
  have d0 : (y == 0) = false := by rw [beq_eq_false_iff_ne]; exact h0
  by_cases h1 : y = 1
  case pos =>
    subst h1
    go_wp2_with fail
    refine (pick_lit r (k + 260 + 1 + 1 + 1) 3 _ _ (by omega) (by omega) (unhide HRd)).mono ?_
    rintro e w7 ⟨z, rfl, hz, hz2', hr, hg, hlt⟩
    obtain ⟨zN, yy, rfl, hzN, hy, hcy⟩ := lit_val (l := [0, -1, 51]) hlt hz (by simpa using hz2')
    (try simp only [World.size_alloc] at hcy)
    have hyf : -9223372036854775808 ≤ yy ∧ yy ≤ 9223372036854775807 := by simp at hy; omega
    replace HG := hide (grown_trans (unhide HG) hg)
    replace HW := hide ((unhide HW).kg hg (by omega))
    replace HRd := hide hr
    clear hr hg
    clear hlt hy
    obtain ⟨⟨c0, c1, c2⟩, q0, q1, q2⟩ := rown_cells (unhide HWL) (unhide HW) (unhide HJ)
    have HFS := (unhide HW).1
    have HW2 := hide (rown_cell (i := kN * 3 + 1) (x := .int .i64 yy) (rs' := rs.set kN (ra, yy, rd)) (unhide HWL) (unhide HW) (by simp) (fit_set HFS ⟨(HFS _ (mem_at (unhide HJ))).1, hyf⟩) (flat_face (unhide HJ) yy))
    have hgr := (unhide HRd).lt
    have HRd2 := hide ((unhide HRd).oth (g := g) (i := kN * 3 + 1) (.int .i64 yy) (by omega))
    have HG2 := hide (grown_oth (g := g) (i := kN * 3 + 1) (unhide HG) (.int .i64 yy) hgb)
    clear HW HRd HG HFS
    go_wp2_with fail
    go_ret
    exact ⟨_, 8, _, rs.set kN (ra, yy, rd), rfl, by rw [List.length_set]; exact unhide HWL, by omega, by omega, by simp, ⟨(unhide HW2).rrow2, fun a ha => by cases ha; exact hgb⟩, (unhide HRd2).mono (by omega), unhide HG2⟩
  have d1 : (y == 1) = false := by rw [beq_eq_false_iff_ne]; exact h1
  by_cases h2 : y = 2
  case pos =>
    subst h2
    obtain ⟨⟨c0, c1, c2⟩, q0, q1, q2⟩ := rown_cells (unhide HWL) (unhide HW) (unhide HJ)
    have HFS := (unhide HW).1
    have HW2 := hide (rown_cell (i := kN * 3 + 2) (x := .bool (!rd)) (rs' := rs.set kN (ra, rc, !rd)) (unhide HWL) (unhide HW) (by simp) (fit_set HFS ⟨(HFS (ra, rc, rd) (mem_at (unhide HJ))).1, (HFS (ra, rc, rd) (mem_at (unhide HJ))).2⟩) (flat_used (unhide HJ) (!rd)))
    have HRd2 := hide ((unhide HRd).oth (g := g) (i := kN * 3 + 2) (.bool (!rd)) (by omega))
    have HG2 := hide (grown_oth (g := g) (i := kN * 3 + 2) (unhide HG) (.bool (!rd)) hgb)
    clear HW HRd HG HFS
    go_wp2_with fail
    go_ret
    exact ⟨_, 8, _, rs.set kN (ra, rc, !rd), rfl, by rw [List.length_set]; exact unhide HWL, by omega, by omega, by simp, ⟨(unhide HW2).rrow2, fun a ha => by cases ha; exact hgb⟩, (unhide HRd2).mono (by omega), unhide HG2⟩
  have d2 : (y == 2) = false := by rw [beq_eq_false_iff_ne]; exact h2
  clear h0 h1 h2
  have hcc : ¬ ((capr : Int) = 1) := by omega
  have hcc2 : ¬ (capr = 1) := by omega
  have HD := hide ((unhide HW).rrow2).drop1
  go_wp2_with fail
  go_ret
  exact ⟨_, 7, _, rs.drop 1, rfl, by rw [List.length_drop, unhide HWL], by omega, by omega, by simp, ⟨unhide HD, fun a ha => by cases ha; exact hgb⟩, (unhide HRd).mono (by omega), unhide HG⟩
end Go.Proofs.Ytdpkdcdieajkbaa
