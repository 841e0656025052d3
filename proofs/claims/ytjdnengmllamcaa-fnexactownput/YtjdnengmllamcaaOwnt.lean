/-
  The walk of OwnPut in the model.
-/
import Derived.Test.YtjdnengmllamcaaOwns
namespace Go.Proofs.Ytjdnengmllamcaa
open Go.RowKit
set_option linter.unusedVariables false
set_option maxRecDepth 100000

theorem set_same {α : Type} {L : List α} {i : Nat} {v : α} (h : L[i]? = some v) : L.set i v = L := by
  apply List.ext_getElem?
  intro k
  by_cases e : i = k
  · subst e
    rw [h, List.getElem?_set_self]
    rcases Nat.lt_or_ge i L.length with h2 | h2
    · exact h2
    · rw [List.getElem?_eq_none h2] at h; cases h
  · rw [List.getElem?_set_ne e]
theorem flat_get {rs : List Tm.Rw} {j : Nat} {a c : Int} {d : Bool} (hj : rs[j]? = some (a, c, d)) : (rs.flatMap rCells)[j * 3]? = some (.int .i64 a) ∧ (rs.flatMap rCells)[j * 3 + 1]? = some (.int .i64 c) ∧ (rs.flatMap rCells)[j * 3 + 2]? = some (.bool d) :=
  ⟨flat_at rCells 3 rCells_len rs j 0 _ _ hj rfl, flat_at rCells 3 rCells_len rs j 1 _ _ hj rfl, flat_at rCells 3 rCells_len rs j 2 _ _ hj rfl⟩
theorem lt_of_get {α : Type} {L : List α} {i : Nat} {v : α} (h : L[i]? = some v) : i < L.length := by
  rcases Nat.lt_or_ge i L.length with h2 | h2
  · exact h2
  · rw [List.getElem?_eq_none h2] at h; cases h
theorem flat_who {rs : List Tm.Rw} {j : Nat} {a c : Int} {d : Bool} (hj : rs[j]? = some (a, c, d)) (x : Int) : (rs.flatMap rCells).set (j * 3) (.int .i64 x) = (rs.set j (x, c, d)).flatMap rCells := by
  obtain ⟨h0, h1, h2⟩ := flat_get hj
  rw [← flat_set rCells 3 rCells_len rs j (x, c, d) (lt_of_get hj)]
  show _ = (((rs.flatMap rCells).set (j * 3) (.int .i64 x)).set (j * 3 + 1) (.int .i64 c)).set (j * 3 + 1 + 1) (.bool d)
  rw [set_same (i := j * 3 + 1) (by rw [List.getElem?_set_ne (by omega)]; exact h1), set_same (i := j * 3 + 1 + 1) (by rw [List.getElem?_set_ne (by omega)]; exact h2)]
theorem flat_used {rs : List Tm.Rw} {j : Nat} {a c : Int} {d : Bool} (hj : rs[j]? = some (a, c, d)) (x : Bool) : (rs.flatMap rCells).set (j * 3 + 2) (.bool x) = (rs.set j (a, c, x)).flatMap rCells := by
  obtain ⟨h0, h1, h2⟩ := flat_get hj
  rw [← flat_set rCells 3 rCells_len rs j (a, c, x) (lt_of_get hj)]
  show _ = (((rs.flatMap rCells).set (j * 3) (.int .i64 a)).set (j * 3 + 1) (.int .i64 c)).set (j * 3 + 1 + 1) (.bool x)
  rw [set_same h0, set_same h1]
theorem put_at {rs : List Tm.Rw} {k u p : Int} {j : Nat} {r : Tm.Rw} (hj : rs[j]? = some r) : Tm.put rs (k, (j : Int), u, p) = rs.set j (Tm.turned r (k, (j : Int), u, p)) := by
  show rs.set (j : Int).toNat (Tm.turned (Tm.at' rs (j : Int)) _) = _
  rw [at_get hj, Int.toNat_natCast]
theorem rowns_empty (w : World) (o : Obj) : ((w.alloc o).alloc (.cells #[] 47)).ownsRow w.heap.size 47 3 (.slice (some ⟨w.heap.size + 1, 0, none⟩) 0 0) 0 [] := by
  have := World.ownsRow_lit (base := w.heap.size) (e := 47) (size := 3) (w.alloc o) #[] 0 (by simp) (by unfold maxLen; omega) rfl
  simpa using this

set_option maxHeartbeats 4000000 in
theorem c49 (rs : List Tm.Rw) (k t u p : Int) (ao : Option Addr) (n cap : Nat) (w : World) (hn : rs.length = n) (hm : n ≤ 1048576) (hz : ao = none → cap = 0) (hr : RRow w ao rs) :
    Calls Try.prog 49 #[.slice ao n cap, entV k t u p] w (RTold2 w (Tm.ownPut rs (k, t, u, p)) (Tm.fits rs (k, t, u, p))) := by
  subst hn
  obtain ⟨i0, hi, hz0, hz1, hz2⟩ := info_parts Try.infoR
  have HF := hide hr.1
  have HR := hide hr
  have HE := hide ((box_new w [.int .i64 k, .int .i64 t, .int .i64 u, .int .i64 p] 24 (by simp [Value.oneCell'])).alloc (.cells #[] 47))
  have HB0 := hide (below_al (o := .cells #[] 47) (below_a (w := w) (.cells #[.int .i64 k, .int .i64 t, .int .i64 u, .int .i64 p] 24)))
  have HO := hide (rowns_empty w (.cells #[.int .i64 k, .int .i64 t, .int .i64 u, .int .i64 p] 24))
  cases ao with
  | none =>
    have h0 : rs = [] := rrow_none hr
    have hc0 := hz rfl
    subst hc0
    subst h0
    clear hr hz
    have hno := fits_own (rs := []) (e := (k, t, u, p)) (by decide)
    have HNO := hide hno
    have HP := hide (ownPut_no hno)
    have hy := unhide HE
    have y0 := hy.cell 0 rfl
    have y1 := hy.cell 1 rfl
    have y2 := hy.cell 2 rfl
    have y3 := hy.cell 3 rfl
    clear hno hy
    go_enter Try.func49, Try.ntmps49
    go_wp2_with (first | (at_builtin; refine wpList_append_own_none rfl _ _ 41 rfl w.heap.size 47 i0 3 Try.underlying41 hi _ 0 [] rfl (unhide HO) rfl ?_) | fail)
    refine (c43 [] k t u p none 0 0 _ rfl hm ((unhide HR).bel (unhide HB0))).mono ?_
    rintro e w2 ⟨rfl, hb2⟩
    rw [unhide HNO]
    have HO2 := hide (owns_below (unhide HO) hb2)
    have HB2 := hide (below_tr (unhide HB0) hb2)
    clear hb2 y0 y1 y2 y3
    go_wp2_with fail
    go_ret2
    exact ⟨_, ret_lb2 (unhide HNO).symm, by rw [unhide HP]; exact ⟨unhide HF, _, unhide HO2⟩, unhide HB2⟩
  | some ad =>
    have HC := hide (rrow_src (hr.bel (unhide HB0)))
    have hfl := flat_len rCells 3 rCells_len rs
    have hy := unhide HE
    have y0 := hy.cell 0 rfl
    have y1 := hy.cell 1 rfl
    have y2 := hy.cell 2 rfl
    have y3 := hy.cell 3 rfl
    clear hr hz hy
    go_enter Try.func49, Try.ntmps49
    go_wp2_with (first | (at_builtin; refine wpList_append_own _ rfl _ _ 41 rfl w.heap.size 47 i0 _ 3 24 Try.underlying41 hi hz0 hz1 hz2 rfl (by decide) _ _ _ rfl (unhide HO) ad rs.length cap (rs.flatMap rCells) rfl hfl (unhide HC) (flat_oneCell rs) (by simp [maxLen]; omega) (by simp; omega) (unhide HB0).size ?_; intro v' w3 hown' hgrow _; have hgrow : World.grownBy _ w3 (some (w.heap.size + 1)) := hgrow; have HW : Hid (w3.ownsRow w.heap.size 47 3 v' rs.length (rs.flatMap rCells)) := (by unfold Hid; simpa using hown'); have HB3 := hide (grown_below (unhide HB0) hgrow (fun q hq => by cases hq; omega)); have hy := (unhide HE).kpt hgrow (fun e => by simp only [Option.some.injEq] at e; omega); have HE3 := hide hy; clear y0 y1 y2 y3; have y0 := hy.cell 0 rfl; have y1 := hy.cell 1 rfl; have y2 := hy.cell 2 rfl; have y3 := hy.cell 3 rfl; clear hy hown' hgrow HB0 HE HO HC) | fail)
    obtain ⟨ao1, cap1, rfl, hcap1, -, hbl⟩ := owns_read rCells_len (unhide HW)
    refine (c43 rs k t u p (some ad) rs.length cap _ rfl hm ((unhide HR).bel (unhide HB3))).mono ?_
    rintro e w4 ⟨rfl, hb4⟩
    have HW4 := hide (owns_below (unhide HW) hb4)
    have HB4 := hide (below_tr (unhide HB3) hb4)
    have hy := (unhide HE3).below hb4
    have z0 := hy.cell 0 rfl
    have z1 := hy.cell 1 rfl
    have z2 := hy.cell 2 rfl
    have z3 := hy.cell 3 rfl
    clear hb4 hy y0 y1 y2 y3 HW HB3 HE3
    rcases hf : Tm.fits rs (k, t, u, p) with _ | _
    · have HP := hide (ownPut_no hf)
      have HNO := hide hf
      clear hf
      go_wp2_with fail
      go_ret2
      exact ⟨_, ret_lb2 (unhide HNO).symm, by rw [unhide HP]; exact ⟨unhide HF, _, unhide HW4⟩, unhide HB4⟩
    have hfi := Tm.fits_iff.1 hf
    have hke := Tm.entOk_iff.1 hfi.2.1
    dsimp only at hke
    obtain ⟨j, rfl⟩ : ∃ j : Nat, t = (j : Int) := ⟨t.toNat, by omega⟩
    have hl := (Tm.ownOk_iff.1 hfi.1).1
    have hjl : j < rs.length := by omega
    obtain ⟨a, c, d, hj⟩ := r_at hjl
    have HPF := hide (ownOk_fit (Tm.put_ok hf))
    have HP := hide ((ownPut_of hf).trans (put_at (k := k) (u := u) (p := p) hj))
    have HP2 := hide (put_at (k := k) (u := u) (p := p) hj)
    have hg : ∃ g, ao1 = some ⟨g, 0, none⟩ := by
      rcases (unhide HW4).2 with ⟨hv, hz⟩ | ⟨g', cap', cur, hv, rr⟩
      · omega
      · cases hv; exact ⟨g', rfl⟩
    obtain ⟨g, rfl⟩ := hg
    have hbg : w.heap.size ≤ g := (hbl _ rfl).1
    obtain ⟨f0, f1, f2⟩ := flat_get hj
    have c0 : w4.cell? ⟨g, j * 3, none⟩ = some (.int .i64 a) := by rw [(unhide HW4).cellAt (j * 3) (by omega)]; exact f0
    have c1 : w4.cell? ⟨g, j * 3 + 1, none⟩ = some (.int .i64 c) := by rw [(unhide HW4).cellAt (j * 3 + 1) (by omega)]; exact f1
    have c2 : w4.cell? ⟨g, j * 3 + 2, none⟩ = some (.bool d) := by rw [(unhide HW4).cellAt (j * 3 + 2) (by omega)]; exact f2
    have q0 := (unhide HW4).frozenAt (j * 3)
    have q1 := (unhide HW4).frozenAt (j * 3 + 1)
    have q2 := (unhide HW4).frozenAt (j * 3 + 2)
    have HNO := hide hf
    have HJ := hide hj
    have hj1 : (j : Int) < (rs.length : Int) := by omega
    have hj0 : (0 : Int) ≤ (j : Int) := by omega
    have hk3 := hke.2.2.2.2
    have HL := hide hl
    have HJL := hide hjl
    clear hf hfi hke hj hl hbl f0 f1 f2
    rcases hk3 with ⟨h, -⟩ | ⟨h, -⟩ | ⟨h, -⟩ <;> subst h
    · have hp := putR (unhide HW4) rfl (unhide HJL) u p false
      have HW5 := hide hp.1
      have HG5 := hide hp.2.1
      clear hp
      go_wp2_with fail
      go_ret2
      refine ⟨_, ret_lb2 (unhide HNO).symm, ?_, ?_⟩
      · rw [unhide HP]
        refine ⟨by rw [← unhide HP2]; exact unhide HPF, 47, ?_⟩
        rw [List.length_set]
        exact unhide HW5
      · exact grown_below (unhide HB4) (unhide HG5) (fun q hq => by cases hq; exact hbg)
    · have hst := (unhide HW4).stored (j * 3) (.int .i64 u)
      rw [flat_who (unhide HJ) u] at hst
      have HW5 := hide hst.1
      have HG5 := hide hst.2
      clear hst
      go_wp2_with fail
      go_ret2
      refine ⟨_, ret_lb2 (unhide HNO).symm, ?_, ?_⟩
      · rw [unhide HP]
        refine ⟨by rw [← unhide HP2]; exact unhide HPF, 47, ?_⟩
        rw [List.length_set]
        exact unhide HW5
      · exact grown_below (unhide HB4) (unhide HG5) (fun q hq => by cases hq; exact hbg)
    · have hst := (unhide HW4).stored (j * 3 + 2) (.bool true)
      rw [flat_used (unhide HJ) true] at hst
      have HW5 := hide hst.1
      have HG5 := hide hst.2
      clear hst
      go_wp2_with fail
      go_ret2
      refine ⟨_, ret_lb2 (unhide HNO).symm, ?_, ?_⟩
      · rw [unhide HP]
        refine ⟨by rw [← unhide HP2]; exact unhide HPF, 47, ?_⟩
        rw [List.length_set]
        exact unhide HW5
      · exact grown_below (unhide HB4) (unhide HG5) (fun q hq => by cases hq; exact hbg)
end Go.Proofs.Ytjdnengmllamcaa
