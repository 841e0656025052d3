/-
  The walk of the law FnTreCheck: at every code it answers true, and nothing that was there is written.
-/
import Derived.Test.YtiockogogfoojaaDrawe
namespace Go.Proofs.Ytiockogogfoojaa
open Go.RowKit
set_option linter.unusedVariables false

theorem up_mixed {n i leaf y : Int} {ps : List Int} (h : Tm.treUp n i leaf ps = some y) : 0 ≤ y ∧ y < 65521 := by
  by_cases hc : 1 ≤ n ∧ n ≤ 40 ∧ 0 ≤ i ∧ i < n ∧ Tm.okB leaf = true ∧ Tm.treOk ps = true
  · rw [treUp_of hc] at h
    exact (Tm.okB_iff _).1 (Tm.up_ok hc.2.2.2.2.1 ps _ _ _ h)
  · rw [treUp_no hc] at h; cases h

set_option maxHeartbeats 3000000 in
theorem law9 (zs : List Int) (ao : Option Addr) (n cap : Nat) (w : World) (hn : zs.length = n) (hc : n ≤ cap) (hm : cap ≤ maxLen) (hB : Bytes w ao zs) :
    Calls Try.prog 9 #[.slice ao n cap] w (Holds w) := by
  have HM := hide hm
  unfold maxLen at hm
  have HB := hide hB
  clear hB
  by_cases hbig : (1048576 : Int) < (n : Int)
  · go_enter Try.func9, Try.ntmps9
    go_wp2_with fail
    go_ret
    exact ⟨rfl, Below.refl _ _⟩
  go_enter Try.func9, Try.ntmps9
  go_wp2_with fail
  refine (c47 zs ao n cap _ hn hc (unhide HM) (unhide HB)).mono ?_
  rintro e w1 ⟨root, m, i, x, v, ps, rfl, ho, hp, hb⟩
  obtain ⟨ao1, cap1, rfl, hcap1, hr, -⟩ := ho.row
  have HR := hide hr
  have HBe := hide hb
  clear ho hr hb HB HM hbig hm hc hn
  go_wp2_with fail
  refine (c46 ps _ _ _ _ _ _ _ _ rfl hcap1 (by omega) (unhide HR)).mono ?_
  rintro e w2 ⟨rfl, hb2⟩
  have HR2 := hide ((unhide HR).below hb2 (Nat.le_refl _))
  have HB2 := hide (below_then (unhide HBe) hb2)
  clear hb2 HR HBe
  go_wp2_with fail
  refine (c48 ps _ _ _ _ _ _ _ _ rfl hcap1 (by omega) (unhide HR2)).mono ?_
  rintro e w' ⟨rfl, rfl⟩
  have hne : (Tm.treCheck root m i x ps != Tm.treCheck root m i x ps) = false := by simp
  rcases hu : Tm.treUp m i x ps with _ | y
  · have hch : Tm.treCheck root m i x ps = false := by unfold Tm.treCheck; rw [hu]; rfl
    have Hu := hide hu
    rw [hch]
    clear hu hch hne
    go_wp2_with fail
    refine (c49 ps _ _ _ _ _ _ _ rfl hcap1 (by omega) (unhide HR2)).mono ?_
    rintro e w3 ⟨rfl, hb3⟩
    have HB3 := hide (below_then (unhide HB2) hb3)
    clear hb3 HR2 HB2
    rw [unhide Hu]
    simp only [upVal, Option.isSome_none, Option.getD_none]
    go_wp2_with (go_at_call 29; refine (c29 _).mono ?_; rintro e w' ⟨rfl, rfl⟩)
    go_ret
    exact ⟨rfl, unhide HB3⟩
  · obtain ⟨y1, y2⟩ := up_mixed hu
    by_cases he : y = root
    · subst he
      have hch : Tm.treCheck y m i x ps = true := by unfold Tm.treCheck; rw [hu]; simp
      have hch2 : Tm.treCheck ((y + 1) % 65521) m i x ps = false := by
        unfold Tm.treCheck; rw [hu]
        simp only [Option.isSome_some, Option.getD_some, Bool.true_and]
        rw [beq_eq_false_iff_ne]; omega
      have Hu := hide hu
      have H2 := hide hch2
      rw [hch]
      clear hu hch hch2 hne
      go_wp2_with fail
      refine (c49 ps _ _ _ _ _ _ _ rfl hcap1 (by omega) (unhide HR2)).mono ?_
      rintro e w3 ⟨rfl, hb3⟩
      have HR3 := hide ((unhide HR2).below hb3 (Nat.le_refl _))
      have HB3 := hide (below_then (unhide HB2) hb3)
      clear hb3 HR2 HB2
      rw [unhide Hu]
      simp only [upVal, Option.isSome_some, Option.getD_some]
      go_wp2_with fail
      refine (c46 ps _ _ _ _ _ _ _ _ rfl hcap1 (by omega) (unhide HR3)).mono ?_
      rintro e w4 ⟨rfl, hb4⟩
      have HB4 := hide (below_then (unhide HB3) hb4)
      clear hb4 HR3 HB3
      rw [unhide H2]
      go_wp2_with (go_at_call 29; refine (c29 _).mono ?_; rintro e w' ⟨rfl, rfl⟩)
      go_ret
      exact ⟨rfl, unhide HB4⟩
    · have hch : Tm.treCheck root m i x ps = false := by
        unfold Tm.treCheck; rw [hu]
        simp only [Option.isSome_some, Option.getD_some, Bool.true_and]
        rw [beq_eq_false_iff_ne]; exact he
      have hbe : (y == root) = false := by rw [beq_eq_false_iff_ne]; exact he
      have Hu := hide hu
      rw [hch]
      clear hu hch hne he
      go_wp2_with fail
      refine (c49 ps _ _ _ _ _ _ _ rfl hcap1 (by omega) (unhide HR2)).mono ?_
      rintro e w3 ⟨rfl, hb3⟩
      have HB3 := hide (below_then (unhide HB2) hb3)
      clear hb3 HR2 HB2
      rw [unhide Hu]
      simp only [upVal, Option.isSome_some, Option.getD_some]
      go_wp2_with (go_at_call 29; refine (c29 _).mono ?_; rintro e w' ⟨rfl, rfl⟩)
      go_ret
      exact ⟨rfl, unhide HB3⟩
end Go.Proofs.Ytiockogogfoojaa
