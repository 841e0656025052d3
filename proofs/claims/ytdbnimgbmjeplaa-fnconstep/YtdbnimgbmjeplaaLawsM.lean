/-
  The walks of the laws FnConProof and FnConCheck: at every code each answers true, and nothing that was there is written.
-/
import Derived.Test.YtdbnimgbmjeplaaGrowe
import Derived.Test.YtdbnimgbmjeplaaDrawg
namespace Go.Proofs.Ytdbnimgbmjeplaa
open Go.RowKit
set_option linter.unusedVariables false

theorem treOk_take {ys : List Int} (h : Tm.treOk ys = true) (m : Nat) : Tm.treOk (ys.take m) = true := by
  obtain ⟨t1, t2⟩ := treOk_len h
  unfold Tm.treOk
  rw [decide_eq_true (by rw [List.length_take]; omega), Tm.okAll_take t2 m]; rfl
theorem treRoot_ok {ys : List Int} (h : Tm.treOk ys = true) : Tm.treRoot ys = Tm.root ys := by unfold Tm.treRoot; rw [h]; rfl
/-- WHAT HAS GROWN CAN BE SHOWN TO HAVE GROWN -/
theorem check_con {ys : List Int} {m : Nat} (hok : Tm.treOk ys = true) (h1 : 1 ≤ m) (h2 : m ≤ ys.length) : Tm.conCheck m (Tm.treRoot (ys.take m)) ys.length (Tm.treRoot ys) (Tm.con ys m true) = true := by
  obtain ⟨t1, t2⟩ := treOk_len hok
  have hb := Tm.both_con _ ys m true (Tm.root (ys.take m)) (Nat.le_refl _) t1 h1 h2 (fun _ => rfl)
  have hp : Tm.treOk (Tm.con ys m true) = true := by
    unfold Tm.treOk
    rw [decide_eq_true (by have := Tm.con_len7 (l := ys) (m := m) true t1 h1 h2; omega), Tm.con_ok _ ys m true (Nat.le_refl _) t1 h1 h2 t2]; rfl
  have o1 : Tm.okB (Tm.root (ys.take m)) = true := Tm.root_ok _ _ (Nat.le_refl _) (by rw [List.length_take]; omega) (Tm.okAll_take t2 m)
  have o2 : Tm.okB (Tm.root ys) = true := Tm.root_ok _ _ (Nat.le_refl _) t1 t2
  rw [treRoot_ok hok, treRoot_ok (treOk_take hok m), conCheck_of ⟨by omega, by omega, by omega, by omega, o1, o2, hp⟩, hb]
  simp

set_option maxHeartbeats 3000000 in
theorem law4 (zs : List Int) (ao : Option Addr) (n cap : Nat) (w : World) (hn : zs.length = n) (hc : n ≤ cap) (hm : cap ≤ maxLen) (hB : Bytes w ao zs) :
    Calls Try.prog 4 #[.slice ao n cap] w (Holds w) := by
  have HM := hide hm
  unfold maxLen at hm
  have HB := hide hB
  clear hB
  by_cases hbig : (1048576 : Int) < (n : Int)
  · go_enter Try.func4, Try.ntmps4
    go_wp2_with fail
    go_ret
    exact ⟨rfl, Below.refl _ _⟩
  go_enter Try.func4, Try.ntmps4
  go_wp2_with fail
  refine (c20 zs ao n cap _ hn hc (unhide HM) (unhide HB)).mono ?_
  rintro e w1 ⟨v, ys, i, rfl, ho, hy, hi, hb⟩
  obtain ⟨ao1, cap1, rfl, hcap1, hr, -⟩ := ho.row
  have HR := hide hr
  have HBe := hide hb
  obtain ⟨hi1, hi2⟩ := hi
  clear ho hr hb HB HM hbig hm hc hn
  go_wp2_with fail
  refine (c21 ys i _ _ _ _ rfl hcap1 (by omega) (unhide HR)).mono ?_
  rintro e w2 ⟨v2, rfl, ho2, hb2⟩
  obtain ⟨ao2, cap2, rfl, hcap2, hr2, -⟩ := ho2.row
  have HR1 := hide ((unhide HR).below hb2 (Nat.le_refl _))
  have HR2 := hide hr2
  have HB2 := hide (below_then (unhide HBe) hb2)
  clear ho2 hr2 hb2 HR HBe
  go_wp2_with fail
  refine (c22 ys i _ _ _ _ rfl hcap1 (by omega) (unhide HR1)).mono ?_
  rintro e w3 ⟨v3, rfl, ho3, hb3⟩
  obtain ⟨ao3, cap3, rfl, hcap3, hr3, -⟩ := ho3.row
  have HR1b := hide ((unhide HR1).below hb3 (Nat.le_refl _))
  have HR2b := hide ((unhide HR2).below hb3 (Nat.le_refl _))
  have HR3 := hide hr3
  have HB3 := hide (below_then (unhide HB2) hb3)
  have hl7 := conProof_len (zs := ys) (m := i)
  clear ho3 hr3 hb3 HR1 HR2 HB2
  go_wp2_with fail
  refine (c12 (Tm.conProof ys i) (Tm.conProof ys i) _ _ _ _ _ _ _ rfl rfl (by omega) (by omega) (unhide HR2b) (unhide HR3)).mono ?_
  rintro e w4 ⟨rfl, q, rfl⟩
  rw [decide_self]
  have HR1c := hide ((unhide HR1b).drewN q)
  have HR2c := hide ((unhide HR2b).drewN q)
  have HB4 := hide (below_drewN (unhide HB3) q)
  clear HR1b HR2b HR3 HB3
  generalize w3.drewN q = w4 at *
  rcases hok : Tm.treOk ys with _ | _
  · have hz := conProof_no (zs := ys) (m := i) (by rw [hok]; simp)
    rw [hz]
    clear hz
    go_wp2_with (first | (go_at_call 14; refine (c14 ys _ _ _ _ rfl (by omega) (unhide HR1c)).mono ?_; rintro e w' ⟨rfl, rfl⟩) | (go_at_call 17; refine (c17 _).mono ?_; rintro e w' ⟨rfl, rfl⟩))
    go_ret
    exact ⟨rfl, unhide HB4⟩
  by_cases h1 : i < 1
  · have hz := conProof_no (zs := ys) (m := i) (by omega)
    rw [hz]
    clear hz
    go_wp2_with (first | (go_at_call 14; refine (c14 ys _ _ _ _ rfl (by omega) (unhide HR1c)).mono ?_; rintro e w' ⟨rfl, rfl⟩) | (go_at_call 17; refine (c17 _).mono ?_; rintro e w' ⟨rfl, rfl⟩))
    go_ret
    exact ⟨rfl, unhide HB4⟩
  have d1 : decide (i < 1) = false := by simpa using h1
  by_cases h2 : (ys.length : Int) < i
  · have hz := conProof_no (zs := ys) (m := i) (by omega)
    rw [hz]
    clear hz
    go_wp2_with (first | (go_at_call 14; refine (c14 ys _ _ _ _ rfl (by omega) (unhide HR1c)).mono ?_; rintro e w' ⟨rfl, rfl⟩) | (go_at_call 17; refine (c17 _).mono ?_; rintro e w' ⟨rfl, rfl⟩))
    go_ret
    exact ⟨rfl, unhide HB4⟩
  have d2 : decide ((ys.length : Int) < i) = false := by simpa using h2
  obtain ⟨iN, rfl⟩ := Int.eq_ofNat_of_zero_le (show 0 ≤ i by omega)
  have hpo := conProof_of (zs := ys) (m := iN) ⟨hok, by omega, by omega⟩
  rw [Int.toNat_natCast] at hpo
  rw [hpo] at HR2c hl7 hcap2
  rw [hpo]
  have HCH := hide (check_con hok (m := iN) (by omega) (by omega))
  have HE : Hid (iN = ys.length → (Tm.con ys iN true).length = 0) := by
    intro he; rw [Tm.con_all he (by omega)]; rfl
  have HLT := hide (show (ys.take iN).length = iN by rw [List.length_take]; omega)
  have HRT := hide ((unhide HR1c).take iN)
  clear hpo
  generalize Tm.con ys iN true = ps at *
  generalize ys.take iN = ts at *
  have j0 : (0 : Int) ≤ (iN : Int) := by omega
  have j1 : (iN : Int) ≤ (cap1 : Int) := by omega
  by_cases h3 : (iN : Int) < (ys.length : Int)
  case' neg =>
    have d3 : decide ((iN : Int) < (ys.length : Int)) = false := by simpa using h3
    have hz : ((ps.length : Int) == 0) = true := by rw [beq_iff_eq]; have := unhide HE (by omega); omega
  all_goals
    go_wp2_with (go_at_call 14; refine (c14 ys _ _ _ _ rfl (by omega) (unhide HR1c)).mono ?_; rintro e w' ⟨rfl, rfl⟩)
    refine (c16 ts _ _ _ _ (unhide HLT) (by omega) (by omega) (unhide HRT)).mono ?_
    rintro e w5 ⟨rfl, hb5⟩
    have HR5 := hide ((unhide HR1c).below hb5 (Nat.le_refl _))
    have HP5 := hide ((unhide HR2c).below hb5 (Nat.le_refl _))
    have HB5 := hide (below_then (unhide HB4) hb5)
    clear hb5
    go_wp2_with fail
    refine (c16 ys _ _ _ _ rfl hcap1 (by omega) (unhide HR5)).mono ?_
    rintro e w6 ⟨rfl, hb6⟩
    have HP6 := hide ((unhide HP5).below hb6 (Nat.le_refl _))
    have HB6 := hide (below_then (unhide HB5) hb6)
    clear hb6
    go_wp2_with fail
    refine (c23 ps _ _ _ _ _ _ _ _ rfl hcap2 (by omega) (unhide HP6)).mono ?_
    rintro e w7 ⟨rfl, hb7⟩
    rw [unhide HCH]
    have HB7 := hide (below_then (unhide HB6) hb7)
    clear hb7
    go_wp2_with fail
    go_ret
    exact ⟨rfl, unhide HB7⟩

/-- what shows growth to one root shows it to no other one -/
theorem conCheck_next {m old n root : Int} {ps : List Int} (h : Tm.conCheck m old n root ps = true) : (1 ≤ n ∧ n ≤ 40 ∧ 1 ≤ m ∧ m ≤ n ∧ Tm.okB old = true ∧ Tm.okB root = true ∧ Tm.treOk ps = true) ∧ Tm.conCheck m old n ((root + 1) % 65521) ps = false ∧ (m < n ∨ (old = root ∧ ps.length = 0)) := by
  by_cases hc : 1 ≤ n ∧ n ≤ 40 ∧ 1 ≤ m ∧ m ≤ n ∧ Tm.okB old = true ∧ Tm.okB root = true ∧ Tm.treOk ps = true
  · rw [conCheck_of hc, decide_eq_true_iff] at h
    have hr := (Tm.okB_iff _).1 hc.2.2.2.2.2.1
    refine ⟨hc, ?_, ?_⟩
    · rw [conCheck_of ⟨hc.1, hc.2.1, hc.2.2.1, hc.2.2.2.1, hc.2.2.2.2.1, (Tm.okB_iff _).2 (by omega), hc.2.2.2.2.2.2⟩, h, decide_eq_false_iff_not]
      intro e
      simp only [Option.some.injEq, Prod.mk.injEq] at e
      omega
    · by_cases hmn : m = n
      · right
        subst hmn
        by_cases hp : ps = []
        · subst hp
          rw [Tm.both_nil_all rfl] at h
          simp only [Option.some.injEq, Prod.mk.injEq] at h
          exact ⟨h.2, rfl⟩
        · obtain ⟨k, hk⟩ : ∃ k, ps.length = k + 1 := ⟨ps.length - 1, by cases ps; exact absurd rfl hp; simp⟩
          rw [Tm.snoc_of hk, Tm.both_all_not rfl (by simp)] at h
          cases h
      · left; omega
  · rw [conCheck_no hc] at h
    cases h

set_option maxHeartbeats 3000000 in
theorem law5 (zs : List Int) (ao : Option Addr) (n cap : Nat) (w : World) (hn : zs.length = n) (hc : n ≤ cap) (hm : cap ≤ maxLen) (hB : Bytes w ao zs) :
    Calls Try.prog 5 #[.slice ao n cap] w (Holds w) := by
  have HM := hide hm
  unfold maxLen at hm
  have HB := hide hB
  clear hB
  by_cases hbig : (1048576 : Int) < (n : Int)
  · go_enter Try.func5, Try.ntmps5
    go_wp2_with fail
    go_ret
    exact ⟨rfl, Below.refl _ _⟩
  go_enter Try.func5, Try.ntmps5
  go_wp2_with fail
  refine (c24 zs ao n cap _ hn hc (unhide HM) (unhide HB)).mono ?_
  rintro e w1 ⟨m, old, n', root, pv, ps, rfl, ho, hl, hb⟩
  obtain ⟨ao1, cap1, rfl, hcap1, hr, -⟩ := ho.row
  have HR := hide hr
  have HBe := hide hb
  clear ho hr hb HB HM hbig hm hc hn
  go_wp2_with fail
  refine (c23 ps m old n' root _ _ _ _ rfl hcap1 (by omega) (unhide HR)).mono ?_
  rintro e w2 ⟨rfl, hb2⟩
  have HR2 := hide ((unhide HR).below hb2 (Nat.le_refl _))
  have HB2 := hide (below_then (unhide HBe) hb2)
  clear hb2 HR HBe
  go_wp2_with fail
  refine (c25 ps m old n' root _ _ _ _ rfl hcap1 (by omega) (unhide HR2)).mono ?_
  rintro e w3 ⟨rfl, q, rfl⟩
  have HR3 := hide ((unhide HR2).drewN q)
  have HB3 := hide (below_drewN (unhide HB2) q)
  clear HR2 HB2
  generalize w2.drewN q = w3 at *
  rcases hch : Tm.conCheck m old n' root ps with _ | _
  · clear hch
    go_wp2_with (go_at_call 17; refine (c17 _).mono ?_; rintro e w' ⟨rfl, rfl⟩)
    go_ret
    exact ⟨rfl, unhide HB3⟩
  obtain ⟨⟨c1, c2, c3, c4, c5, c6, c7⟩, hnx, hor⟩ := conCheck_next hch
  have hrb := (Tm.okB_iff _).1 c6
  obtain ⟨hr0, hr1⟩ := hrb
  have HNX := hide hnx
  clear hch hnx c5 c6 c7
  by_cases h3 : m < n'
  case' neg =>
    have d3 : decide (m < n') = false := by simpa using h3
    have hz1 : (old == root) = true := by rw [beq_iff_eq]; omega
    have hz2 : ((ps.length : Int) == 0) = true := by rw [beq_iff_eq]; omega
  all_goals
    clear hor
    go_wp2_with fail
    refine (c23 ps m old n' _ _ _ _ _ rfl hcap1 (by omega) (unhide HR3)).mono ?_
    rintro e w4 ⟨rfl, hb4⟩
    rw [unhide HNX]
    have HB4 := hide (below_then (unhide HB3) hb4)
    clear hb4
    go_wp2_with fail
    go_ret
    exact ⟨rfl, unhide HB4⟩
end Go.Proofs.Ytdbnimgbmjeplaa
