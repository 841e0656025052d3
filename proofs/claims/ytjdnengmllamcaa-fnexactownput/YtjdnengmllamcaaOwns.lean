/-
  The walks of OwnFits and OwnPut in the model.
-/
import Derived.Test.YtjdnengmllamcaaOwnf
import Derived.Deep.QuietTactic
import Derived.BigQuiet
namespace Go.Proofs.Ytjdnengmllamcaa
open Go.RowKit
set_option linter.unusedVariables false
set_option maxRecDepth 100000

set_option maxHeartbeats 2000000 in
theorem c43 (rs : List Tm.Rw) (k t u p : Int) (ao : Option Addr) (n cap : Nat) (w : World) (hn : rs.length = n) (hm : n ≤ 1048576) (hr : RRow w ao rs) :
    Calls Try.prog 43 #[.slice ao n cap, entV k t u p] w fun e w' => e = .returned (.bool (Tm.fits rs (k, t, u, p))) ∧ Below w.heap.size w w' := by
  have HR := hide hr
  have HN := hide hn
  have hE := box_new w [.int .i64 k, .int .i64 t, .int .i64 u, .int .i64 p] 24 (by simp [Value.oneCell'])
  have HE := hide hE
  clear hr hn hE
  go_enter Try.func43, Try.ntmps43
  go_wp2_with fail
  refine (c45 rs ao n cap _ HN.out (by omega) ((unhide HR).bel (below_a _))).mono ?_
  rintro e w1 ⟨rfl, hb⟩
  have HB1 := hide (below_tr (below_a (w := w) _) hb)
  have hE1 := (unhide HE).below hb
  have HE1 := hide hE1
  have y0 := hE1.cell 0 rfl
  have y1 := hE1.cell 1 rfl
  have y2 := hE1.cell 2 rfl
  have y3 := hE1.cell 3 rfl
  clear hb hE1 HE
  rcases hk : Tm.ownOk rs with _ | _
  · have HF := hide (fits_own (e := (k, t, u, p)) hk)
    clear hk
    go_wp2_with fail
    go_ret
    exact ⟨ret_bool (unhide HF).symm, unhide HB1⟩
  have HO := hide hk
  clear hk
  go_wp2_with fail
  refine (c35 k t u p _).mono ?_
  rintro e w2 ⟨rfl, hb⟩
  have HB2 := hide (below_tr (unhide HB1) hb)
  have hE2 := (unhide HE1).below hb
  have HE2 := hide hE2
  have z0 := hE2.cell 0 rfl
  have z1 := hE2.cell 1 rfl
  have z2 := hE2.cell 2 rfl
  have z3 := hE2.cell 3 rfl
  have HR2 := hide ((unhide HR).bel (unhide HB2))
  clear hb hE2 HE1 y0 y1 y2 y3 HB1
  rcases hk : Tm.entOk (k, t, u, p) with _ | _
  · have HF := hide (fits_no (rs := rs) hk)
    clear hk
    go_wp2_with fail
    go_ret
    exact ⟨ret_bool (unhide HF).symm, unhide HB2⟩
  have hke := Tm.entOk_iff.1 hk
  dsimp only at hke
  obtain ⟨j, rfl⟩ : ∃ j : Nat, t = (j : Int) := ⟨t.toNat, by omega⟩
  have hl := (Tm.ownOk_iff.1 (unhide HO)).1
  have hjl : j < rs.length := by omega
  obtain ⟨b, off, rfl, hc⟩ := (unhide HR2).2 (by intro e; subst e; simp at hjl)
  obtain ⟨a, c, d, hj⟩ := r_at hjl
  obtain ⟨g0, g1, g2⟩ := r_cells (Below.refl _ _) hc hj
  have hfm := fits_of (unhide HO) hk (j := j) rfl hj
  have hn8 : (n : Int) = 8 := by have := HN.out; omega
  have hj1 : (j : Int) < (n : Int) := by omega
  have hj0 : (0 : Int) ≤ (j : Int) := by omega
  have hk3 := hke.2.2.2.2
  have hE3 := (unhide HE2).alloc (.cells #[.int .i64 a, .int .i64 c, .bool d] 47)
  have v0 := hE3.cell 0 rfl
  have v1 := hE3.cell 1 rfl
  have v2 := hE3.cell 2 rfl
  have v3 := hE3.cell 3 rfl
  clear hc hke hl hjl hE3 hn8
  rcases hk3 with ⟨h, -⟩ | ⟨h, -⟩ | ⟨h, -⟩ <;> subst h
  · rw [may_1] at hfm
    have HF := hide hfm
    clear hfm hk hj
    go_wp2_with fail
    go_ret
    exact ⟨ret_bool (by rw [unhide HF]; first | rfl | (rw [Bool.eq_iff_iff]; simp; done)), below_al (unhide HB2)⟩
  · rw [may_2] at hfm
    have HF := hide hfm
    clear hfm hk hj
    by_cases h0 : a = 0
    · subst h0
      have HE : Hid (passOk 0 c d u p = false) := by unfold Hid passOk; rw [decide_eq_false_iff_not]; intro e; exact e.1 rfl
      go_wp2_with fail
      go_quiet (fail)
      go_wp2_with fail
      go_ret
      exact ⟨ret_bool (by rw [unhide HF, unhide HE]), below_dn (below_al (unhide HB2)) _⟩
    have b0 : (a != 0) = true := by rw [bne_iff_ne]; exact h0
    cases d with
    | true =>
      have HE : Hid (passOk a c true u p = false) := by unfold Hid passOk; rw [decide_eq_false_iff_not]; intro e; exact absurd e.2.2.1 (by simp)
      clear h0
      go_wp2_with fail
      go_quiet (fail)
      go_wp2_with fail
      go_ret
      exact ⟨ret_bool (by rw [unhide HF, unhide HE]), below_dn (below_al (unhide HB2)) _⟩
    | false =>
      by_cases h1 : a = u
      · subst h1
        have HE : Hid (passOk a c false a p = false) := by unfold Hid passOk; rw [decide_eq_false_iff_not]; intro e; exact e.2.1 rfl
        clear h0
        go_wp2_with fail
        go_quiet (fail)
        go_wp2_with fail
        go_ret
        exact ⟨ret_bool (by rw [unhide HF, unhide HE]), below_dn (below_al (unhide HB2)) _⟩
      have b1 : (a != u) = true := by rw [bne_iff_ne]; exact h1
      have HE : Hid (passOk a c false u p = decide (p ≤ Tm.cap c)) := by unfold Hid passOk; rw [Bool.eq_iff_iff, decide_eq_true_iff, decide_eq_true_iff]; exact ⟨fun e => e.2.2.2, fun e => ⟨h0, h1, rfl, e⟩⟩
      clear h0 h1
      go_wp2_with fail
      go_quiet ((go_at_call 110; exact Calls.quiet_of_same (c110 _ _)))
      go_wp2_with fail
      go_ret
      exact ⟨ret_bool (by rw [unhide HF, unhide HE]), below_dn (below_al (unhide HB2)) _⟩
  · rw [may_3] at hfm
    have HF := hide hfm
    clear hfm hk hj
    by_cases h0 : a = u
    · subst h0
      go_wp2_with fail
      go_ret
      exact ⟨ret_bool (by rw [unhide HF]; first | rfl | (simp; done)), below_al (unhide HB2)⟩
    · have b0 : (a == u) = false := by simpa using h0
      have HE := hide (decide_eq_false h0)
      clear h0
      go_wp2_with fail
      go_ret
      exact ⟨ret_bool (by rw [unhide HF, unhide HE]; rfl), below_al (unhide HB2)⟩
end Go.Proofs.Ytjdnengmllamcaa
