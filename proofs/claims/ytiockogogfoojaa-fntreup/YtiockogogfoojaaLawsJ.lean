/-
  The walk of the law FnTreUp: at every code it answers true, and nothing that was there is written.
-/
import Derived.Test.YtiockogogfoojaaDrawf
import Derived.Test.YtiockogogfoojaaLawsI
namespace Go.Proofs.Ytiockogogfoojaa
open Go.RowKit
set_option linter.unusedVariables false

theorem up_cond {n i leaf y : Int} {ps : List Int} (h : Tm.treUp n i leaf ps = some y) : (1 ≤ n ∧ n ≤ 40 ∧ 0 ≤ i ∧ i < n ∧ Tm.okB leaf = true ∧ Tm.treOk ps = true) ∧ Tm.up n i leaf ps = some y := by
  by_cases hc : 1 ≤ n ∧ n ≤ 40 ∧ 0 ≤ i ∧ i < n ∧ Tm.okB leaf = true ∧ Tm.treOk ps = true
  · rw [treUp_of hc] at h
    exact ⟨hc, h⟩
  · rw [treUp_no hc] at h; cases h

theorem up_one {i leaf y : Int} {ps : List Int} (h : Tm.treUp 1 i leaf ps = some y) : ps = [] ∧ y = leaf := by
  obtain ⟨-, hu⟩ := up_cond h
  by_cases h0 : ps = []
  · subst h0
    rw [Tm.up_nil_one (by omega)] at hu
    cases hu
    exact ⟨rfl, rfl⟩
  · obtain ⟨k, hk⟩ : ∃ k, ps.length = k + 1 := ⟨ps.length - 1, by cases ps; exact absurd rfl h0; simp⟩
    rw [Tm.snoc_of hk, Tm.up_cons_one (by omega)] at hu
    cases hu

theorem treOk_take {ps : List Int} (h : Tm.treOk ps = true) (k : Nat) : Tm.treOk (ps.take k) = true := by
  obtain ⟨t1, t2⟩ := treOk_len h
  unfold Tm.treOk
  rw [Bool.and_eq_true, decide_eq_true_iff]
  exact ⟨by rw [List.length_take]; omega, Tm.okAll_take t2 k⟩

theorem up_more {n i leaf y : Int} {ps : List Int} (h : Tm.treUp n i leaf ps = some y) (h2 : 2 ≤ n) :
    ∃ k, ps.length = k + 1 ∧ (i < Tm.split n → ∃ x, Tm.treUp (Tm.split n) i leaf (ps.take k) = some x ∧ y = Tm.pair x (ps.getD k 0)) ∧
      (¬ i < Tm.split n → ∃ x, Tm.treUp (n - Tm.split n) (i - Tm.split n) leaf (ps.take k) = some x ∧ y = Tm.pair (ps.getD k 0) x) := by
  obtain ⟨⟨c1, c2, c3, c4, c5, c6⟩, hu⟩ := up_cond h
  by_cases h0 : ps = []
  · subst h0
    rw [Tm.up_nil_more h2] at hu
    cases hu
  · obtain ⟨k, hk⟩ : ∃ k, ps.length = k + 1 := ⟨ps.length - 1, by cases ps; exact absurd rfl h0; simp⟩
    have hs := Tm.split_bd h2 c2
    obtain ⟨s1, s2, s3⟩ := hs
    have ht := treOk_take c6 k
    refine ⟨k, hk, fun hi => ?_, fun hi => ?_⟩
    · rw [Tm.snoc_of hk, Tm.up_left h2 hi, Option.map_eq_some_iff] at hu
      obtain ⟨z, hz, rfl⟩ := hu
      exact ⟨z, by rw [treUp_of ⟨by omega, by omega, c3, hi, c5, ht⟩]; exact hz, rfl⟩
    · rw [Tm.snoc_of hk, Tm.up_right h2 hi, Option.map_eq_some_iff] at hu
      obtain ⟨z, hz, rfl⟩ := hu
      exact ⟨z, by rw [treUp_of ⟨by omega, by omega, by omega, by omega, c5, ht⟩]; exact hz, rfl⟩

set_option maxHeartbeats 3000000 in
theorem law10 (zs : List Int) (ao : Option Addr) (n cap : Nat) (w : World) (hn : zs.length = n) (hc : n ≤ cap) (hm : cap ≤ maxLen) (hB : Bytes w ao zs) :
    Calls Try.prog 10 #[.slice ao n cap] w (Holds w) := by
  have HM := hide hm
  unfold maxLen at hm
  have HB := hide hB
  clear hB
  by_cases hbig : (1048576 : Int) < (n : Int)
  · go_enter Try.func10, Try.ntmps10
    go_wp2_with fail
    go_ret
    exact ⟨rfl, Below.refl _ _⟩
  go_enter Try.func10, Try.ntmps10
  go_wp2_with fail
  refine (c50 zs ao n cap _ hn hc (unhide HM) (unhide HB)).mono ?_
  rintro e w1 ⟨m, i, x, v, ps, rfl, ho, hp, hm', hi', -, hb⟩
  obtain ⟨ao1, cap1, rfl, hcap1, hr, -⟩ := ho.row
  have HR := hide hr
  have HBe := hide hb
  clear ho hr hb HB HM hbig hm hc hn
  go_wp2_with fail
  refine (c49 ps _ _ _ _ _ _ _ rfl hcap1 (by omega) (unhide HR)).mono ?_
  rintro e w2 ⟨rfl, hb2⟩
  have HR2 := hide ((unhide HR).below hb2 (Nat.le_refl _))
  have HB2 := hide (below_then (unhide HBe) hb2)
  clear hb2 HR HBe
  rcases hu : Tm.treUp m i x ps with _ | y
  · have Hu := hide hu
    clear hu
    simp only [upVal, Option.isSome_none, Option.getD_none]
    go_wp2_with fail
    refine (c51 ps _ _ _ _ _ _ _ rfl hcap1 (by omega) (unhide HR2)).mono ?_
    rintro e w' ⟨rfl, rfl⟩
    rw [unhide Hu]
    simp only [upVal, Option.isSome_none, Option.getD_none]
    go_wp2_with (go_at_call 29; refine (c29 _).mono ?_; rintro e w' ⟨rfl, rfl⟩)
    go_ret
    exact ⟨rfl, unhide HB2⟩
  · obtain ⟨⟨q1, q2, q3, q4, -, -⟩, -⟩ := up_cond hu
    have Hu := hide hu
    have hyy : (y != y) = false := by simp
    simp only [upVal, Option.isSome_some, Option.getD_some]
    by_cases h1 : m = 1
    · subst h1
      obtain ⟨rfl, rfl⟩ := up_one hu
      clear hu
      go_wp2_with fail
      refine (c51 [] _ _ _ _ _ _ _ rfl hcap1 (by omega) (unhide HR2)).mono ?_
      rintro e w' ⟨rfl, rfl⟩
      rw [unhide Hu]
      simp only [upVal, Option.isSome_some, Option.getD_some]
      go_wp2_with fail
      go_ret
      exact ⟨rfl, unhide HB2⟩
    · have hm1 : (m == 1) = false := by rw [beq_eq_false_iff_ne]; exact h1
      obtain ⟨k, hk, hL0, hR0⟩ := up_more hu (by omega)
      have HL := hide hL0
      have HRt := hide hR0
      clear hL0 hR0
      obtain ⟨b, off, rfl, hcs⟩ := (unhide HR2).2 (by intro e; subst e; simp at hk)
      have HC := hide (hcs k (by omega))
      have HRT := hide ((unhide HR2).take k)
      have HTL := hide (show (ps.take k).length = k by rw [List.length_take]; omega)
      have hts := Tm.treSplit_of (n := m) (by omega) q2
      have hs := Tm.split_bd (n := m) (by omega) q2
      obtain ⟨s1, s2, s3⟩ := hs
      have HTS := hide hts
      have HK := hide hk
      clear hts hcs hu h1
      generalize ps.getD k 0 = p at *
      generalize ps.take k = init at *
      by_cases his : i < Tm.split m
      · obtain ⟨z, hz, rfl⟩ := unhide HL his
        have HZ := hide hz
        clear HL HRt hz
        generalize Tm.split m = s at *
        have kk1 : (k : Int) ≤ (cap1 : Int) := by omega
        have kk0 : (0 : Int) ≤ (k : Int) := by omega
        rw [hk]
        go_wp2_with fail
        refine (c51 ps _ _ _ _ (k + 1) cap1 _ hk (by omega) (by omega) (unhide HR2)).mono ?_
        rintro e w' ⟨rfl, rfl⟩
        rw [unhide Hu]
        simp only [upVal, Option.isSome_some, Option.getD_some]
        go_wp2_with fail
        refine (c37 _ _).mono ?_
        rintro e w' ⟨rfl, rfl⟩
        rw [unhide HTS]
        go_wp2_with fail
        refine (c49 init _ _ _ _ k cap1 _ (unhide HTL) (by omega) (by omega) (unhide HRT)).mono ?_
        rintro e w3 ⟨rfl, hb3⟩
        have hcell := cell_below hb3 (unhide HC)
        have HB3 := hide (below_then (unhide HB2) hb3)
        clear hb3 HR2 HRT HC HB2
        rw [unhide HZ]
        simp only [upVal, Option.isSome_some, Option.getD_some]
        go_wp2_with (go_at_call 25; refine (c25 _ _ _).mono ?_; rintro e w' ⟨rfl, rfl⟩)
        go_ret
        exact ⟨ret_bool (by simp), unhide HB3⟩
      · obtain ⟨z, hz, rfl⟩ := unhide HRt his
        have HZ := hide hz
        clear HL HRt hz
        generalize Tm.split m = s at *
        have kk1 : (k : Int) ≤ (cap1 : Int) := by omega
        have kk0 : (0 : Int) ≤ (k : Int) := by omega
        rw [hk]
        go_wp2_with fail
        refine (c51 ps _ _ _ _ (k + 1) cap1 _ hk (by omega) (by omega) (unhide HR2)).mono ?_
        rintro e w' ⟨rfl, rfl⟩
        rw [unhide Hu]
        simp only [upVal, Option.isSome_some, Option.getD_some]
        go_wp2_with fail
        refine (c37 _ _).mono ?_
        rintro e w' ⟨rfl, rfl⟩
        rw [unhide HTS]
        go_wp2_with fail
        refine (c49 init _ _ _ _ k cap1 _ (unhide HTL) (by omega) (by omega) (unhide HRT)).mono ?_
        rintro e w3 ⟨rfl, hb3⟩
        have hcell := cell_below hb3 (unhide HC)
        have HB3 := hide (below_then (unhide HB2) hb3)
        clear hb3 HR2 HRT HC HB2
        rw [unhide HZ]
        simp only [upVal, Option.isSome_some, Option.getD_some]
        go_wp2_with (go_at_call 25; refine (c25 _ _ _).mono ?_; rintro e w' ⟨rfl, rfl⟩)
        go_ret
        exact ⟨ret_bool (by simp), unhide HB3⟩
end Go.Proofs.Ytiockogogfoojaa
