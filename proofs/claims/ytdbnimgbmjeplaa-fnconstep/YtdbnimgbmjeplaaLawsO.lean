/-
  The walk of the law FnConStep: at every code it answers true, and nothing that was there is written.
-/
import Derived.Test.YtdbnimgbmjeplaaLawsM
namespace Go.Proofs.Ytdbnimgbmjeplaa
open Go.RowKit
set_option linter.unusedVariables false

theorem check_conP {ys : List Int} {m : Nat} (hok : Tm.treOk ys = true) (h1 : 1 ≤ m) (h2 : m ≤ ys.length) : Tm.conCheck m (Tm.treRoot (ys.take m)) ys.length (Tm.treRoot ys) (Tm.conProof ys m) = true := by
  rw [conProof_of ⟨hok, by omega, by omega⟩, Int.toNat_natCast]
  exact check_con hok h1 h2

set_option maxHeartbeats 3000000 in
theorem law6 (zs : List Int) (ao : Option Addr) (n cap : Nat) (w : World) (hn : zs.length = n) (hc : n ≤ cap) (hm : cap ≤ maxLen) (hB : Bytes w ao zs) :
    Calls Try.prog 6 #[.slice ao n cap] w (Holds w) := by
  have HM := hide hm
  unfold maxLen at hm
  have HB := hide hB
  clear hB
  by_cases hbig : (1048576 : Int) < (n : Int)
  · go_enter Try.func6, Try.ntmps6
    go_wp2_with fail
    go_ret
    exact ⟨rfl, Below.refl _ _⟩
  go_enter Try.func6, Try.ntmps6
  go_wp2_with fail
  refine (c20 zs ao n cap _ hn hc (unhide HM) (unhide HB)).mono ?_
  rintro e w1 ⟨v, ys, i, rfl, ho, hy, hi, hb⟩
  obtain ⟨ao1, cap1, rfl, hcap1, hr, -⟩ := ho.row
  have HR := hide hr
  have HBe := hide hb
  obtain ⟨hi1, hi2⟩ := hi
  clear ho hr hb HB HM hbig hm hc hn
  go_wp2_with fail
  refine (c21 ys i _ _ _ _ rfl hcap1 (by omega) (unhide HR)).mono ?_
  rintro e w2 ⟨v2, rfl, ho2, hb2⟩
  obtain ⟨ao2, cap2, rfl, hcap2, hr2, -⟩ := ho2.row
  have HR1 := hide ((unhide HR).below hb2 (Nat.le_refl _))
  have HR2 := hide hr2
  have HB2 := hide (below_then (unhide HBe) hb2)
  clear ho2 hr2 hb2 HR HBe
  go_wp2_with fail
  refine (c22 ys i _ _ _ _ rfl hcap1 (by omega) (unhide HR1)).mono ?_
  rintro e w3 ⟨v3, rfl, ho3, hb3⟩
  obtain ⟨ao3, cap3, rfl, hcap3, hr3, -⟩ := ho3.row
  have HR1b := hide ((unhide HR1).below hb3 (Nat.le_refl _))
  have HR2b := hide ((unhide HR2).below hb3 (Nat.le_refl _))
  have HR3 := hide hr3
  have HB3 := hide (below_then (unhide HB2) hb3)
  have hl7 := conProof_len (zs := ys) (m := i)
  clear ho3 hr3 hb3 HR1 HR2 HB2
  go_wp2_with fail
  refine (c12 (Tm.conProof ys i) (Tm.conProof ys i) _ _ _ _ _ _ _ rfl rfl (by omega) (by omega) (unhide HR2b) (unhide HR3)).mono ?_
  rintro e w4 ⟨rfl, q, rfl⟩
  rw [decide_self]
  have HR1c := hide ((unhide HR1b).drewN q)
  have HR2c := hide ((unhide HR2b).drewN q)
  have HB4 := hide (below_drewN (unhide HB3) q)
  clear HR1b HR2b HR3 HB3
  generalize w3.drewN q = w4 at *
  rcases hok : Tm.treOk ys with _ | _
  · have hz := conProof_no (zs := ys) (m := i) (by rw [hok]; simp)
    rw [hz]
    clear hz
    go_wp2_with (first | (go_at_call 14; refine (c14 ys _ _ _ _ rfl (by omega) (unhide HR1c)).mono ?_; rintro e w' ⟨rfl, rfl⟩) | (go_at_call 17; refine (c17 _).mono ?_; rintro e w' ⟨rfl, rfl⟩))
    go_ret
    exact ⟨rfl, unhide HB4⟩
  by_cases h1 : i < 1
  · have hz := conProof_no (zs := ys) (m := i) (by omega)
    rw [hz]
    clear hz
    go_wp2_with (first | (go_at_call 14; refine (c14 ys _ _ _ _ rfl (by omega) (unhide HR1c)).mono ?_; rintro e w' ⟨rfl, rfl⟩) | (go_at_call 17; refine (c17 _).mono ?_; rintro e w' ⟨rfl, rfl⟩))
    go_ret
    exact ⟨rfl, unhide HB4⟩
  have d1 : decide (i < 1) = false := by simpa using h1
  by_cases h2 : (ys.length : Int) < i
  · have hz := conProof_no (zs := ys) (m := i) (by omega)
    rw [hz]
    clear hz
    go_wp2_with (first | (go_at_call 14; refine (c14 ys _ _ _ _ rfl (by omega) (unhide HR1c)).mono ?_; rintro e w' ⟨rfl, rfl⟩) | (go_at_call 17; refine (c17 _).mono ?_; rintro e w' ⟨rfl, rfl⟩))
    go_ret
    exact ⟨rfl, unhide HB4⟩
  have d2 : decide ((ys.length : Int) < i) = false := by simpa using h2
  obtain ⟨iN, rfl⟩ := Int.eq_ofNat_of_zero_le (show 0 ≤ i by omega)
  generalize Tm.conProof ys (iN : Int) = p0 at *
  have HOK := hide hok
  have HTK := hide (treOk_take hok iN)
  have HLT := hide (show (ys.take iN).length = iN by rw [List.length_take]; omega)
  have hiN : iN ≤ ys.length := by omega
  have d2' : decide (ys.length < iN) = false := by rw [decide_eq_false_iff_not]; omega
  have hi1' : 1 ≤ iN := by omega
  have HK1 : Hid (∀ k : Nat, 1 ≤ k → k ≤ iN → Tm.conCheck k (Tm.treRoot (ys.take k)) iN (Tm.treRoot (ys.take iN)) (Tm.conProof (ys.take iN) k) = true) := by
    intro k h1 h2
    have h := check_conP (unhide HTK) (m := k) h1 (by rw [unhide HLT]; exact h2)
    rw [List.take_take, Nat.min_eq_left h2, unhide HLT] at h
    exact h
  have HK2 : Hid (∀ k : Nat, 1 ≤ k → k ≤ iN → Tm.conCheck k (Tm.treRoot (ys.take k)) ys.length (Tm.treRoot ys) (Tm.conProof ys k) = true) := by
    intro k h1 h2
    exact check_conP hok h1 (by omega)
  have HRT := hide ((unhide HR1c).take iN)
  have HSw := hide (And.intro hiN hi1')
  clear h1 h2 hok hi1 hi2 hl7 hcap2 HR2c hcap3
  go_wp2_with (go_at_call 14; refine (c14 ys _ _ _ _ rfl (by omega) (unhide HR1c)).mono ?_; rintro e w' ⟨rfl, rfl⟩)
  go_loopw [7] (fun kk wr => ∃ k : Nat, 1 ≤ k ∧ k ≤ iN + 1 ∧ kk = .int .i64 (k : Int) ∧ Below w'.heap.size w' wr) (fun kk _ => iN + 1 - (intOf kk).toNat)
  case atStart => exact ⟨1, Nat.le_refl _, by omega, rfl, Below.refl _ _⟩
  case round =>
    obtain ⟨k, hk1, hk2, rfl, hbel⟩ := hrel
    by_cases hlt : (k : Int) ≤ (iN : Int)
    · have HRw := hide ((unhide HR1c).below hbel (Nat.le_refl _))
      have HRk := hide ((unhide HRw).take k)
      have HRm := hide ((unhide HRT).below hbel (Nat.le_refl _))
      have HLk := hide (show (ys.take k).length = k by rw [List.length_take]; omega)
      have HC1 := hide (unhide HK1 k hk1 (by omega))
      have HC2 := hide (unhide HK2 k hk1 (by omega))
      have HBW := hide hbel
      clear hbel
      have k0 : (0 : Int) ≤ (k : Int) := by omega
      have k1 : (k : Int) ≤ (cap1 : Int) := by omega
      have k2 : (0 : Int) ≤ (iN : Int) := by omega
      have k3 : (iN : Int) ≤ (cap1 : Int) := by omega
      generalize ys.take k = tk at *
      generalize ys.take iN = tm at *
      go_wp2_with fail
      refine wp_region_held_drew (S := fun w'' => Below wr.heap.size wr w'') (by kernel_rfl) (below_drew wr) (fun hHeld => ?_)
      refine wpAnyH_take (i := 0) (oi := { dst := some 50, op := _, type := _, pos := _, after := _, guard := _ }) (v := ?_) rfl (by kernel_rfl) (by kernel_rfl) (by kernel_rfl) (fun _ _ _ h => h) (Or.inl ⟨by rfl, ?_⟩) (by assumption) ?_
      rotate_left
      · intro w hSw
        first | (go_simp; done) | (go_simp; with_reducible rfl)
      try simp only [Act.put, List.setIfInBounds_toArray, List.set_cons_zero, List.set_cons_succ]
      refine wpAnyH_take (i := 1) (oi := { dst := some 51, op := _, type := _, pos := _, after := _, guard := _ }) (v := ?_) rfl (by kernel_rfl) (by kernel_rfl) (by kernel_rfl) (fun _ _ _ h => h) (Or.inl ⟨by rfl, ?_⟩) (by assumption) ?_
      rotate_left
      · intro w hSw
        first | (go_simp; done) | (go_simp; with_reducible rfl)
      try simp only [Act.put, List.setIfInBounds_toArray, List.set_cons_zero, List.set_cons_succ]
      refine wpAnyH_take (i := 2) (oi := { dst := some 52, op := _, type := _, pos := _, after := _, guard := _ }) (v := ?_) rfl (by kernel_rfl) (by kernel_rfl) (by kernel_rfl) (fun _ _ _ h => h) (Or.inl ⟨by rfl, ?_⟩) (by assumption) ?_
      rotate_left
      · intro w hSw
        first | (go_simp; done) | (go_simp; with_reducible rfl)
      try simp only [Act.put, List.setIfInBounds_toArray, List.set_cons_zero, List.set_cons_succ]
      refine wpAnyH_take (i := 3) (oi := { dst := some 53, op := _, type := _, pos := _, after := _, guard := _ }) (v := ?_) rfl (by kernel_rfl) (by kernel_rfl) (by kernel_rfl) (fun _ _ _ h => h) (Or.inl ⟨by rfl, ?_⟩) (by assumption) ?_
      rotate_left
      · intro w hSw
        first | (go_simp; done) | (go_simp; with_reducible rfl)
      try simp only [Act.put, List.setIfInBounds_toArray, List.set_cons_zero, List.set_cons_succ]
      refine wpAnyH_take (i := 5) (oi := { dst := some 55, op := _, type := _, pos := _, after := _, guard := _ }) (v := ?_) rfl (by kernel_rfl) (by kernel_rfl) (by kernel_rfl) (fun _ _ _ h => h) (Or.inl ⟨by rfl, ?_⟩) (by assumption) ?_
      rotate_left
      · intro w hSw
        first | (go_simp; done) | (go_simp; with_reducible rfl)
      try simp only [Act.put, List.setIfInBounds_toArray, List.set_cons_zero, List.set_cons_succ]
      refine wpAnyH_take (i := 6) (oi := { dst := some 56, op := _, type := _, pos := _, after := _, guard := _ }) (v := ?_) rfl (by kernel_rfl) (by kernel_rfl) (by kernel_rfl) (fun _ _ _ h => h) (Or.inl ⟨by rfl, ?_⟩) (by assumption) ?_
      rotate_left
      · intro w hSw
        first | (go_simp; done) | (go_simp; with_reducible rfl)
      try simp only [Act.put, List.setIfInBounds_toArray, List.set_cons_zero, List.set_cons_succ]
      refine wpAnyH_take (i := 7) (oi := { dst := some 57, op := _, type := _, pos := _, after := _, guard := _ }) (v := ?_) rfl (by kernel_rfl) (by kernel_rfl) (by kernel_rfl) (fun _ _ _ h => h) (Or.inl ⟨by rfl, ?_⟩) (by assumption) ?_
      rotate_left
      · intro w hSw
        first | (go_simp; done) | (go_simp; with_reducible rfl)
      try simp only [Act.put, List.setIfInBounds_toArray, List.set_cons_zero, List.set_cons_succ]
      refine wpAnyH_take (i := 8) (oi := { dst := some 58, op := _, type := _, pos := _, after := _, guard := _ }) (v := ?_) rfl (by kernel_rfl) (by kernel_rfl) (by kernel_rfl) (fun _ _ _ h => h) (Or.inl ⟨by rfl, ?_⟩) (by assumption) ?_
      rotate_left
      · intro w hSw
        first | (go_simp; done) | (go_simp; with_reducible rfl)
      try simp only [Act.put, List.setIfInBounds_toArray, List.set_cons_zero, List.set_cons_succ]
      refine wpAnyH_take (i := 10) (oi := { dst := some 60, op := _, type := _, pos := _, after := _, guard := _ }) (v := ?_) rfl (by kernel_rfl) (by kernel_rfl) (by kernel_rfl) (fun _ _ _ h => h) (Or.inl ⟨by rfl, ?_⟩) (by assumption) ?_
      rotate_left
      · intro w hSw
        first | (go_simp; done) | (go_simp; with_reducible rfl)
      try simp only [Act.put, List.setIfInBounds_toArray, List.set_cons_zero, List.set_cons_succ]
      refine wpAnyH_take (i := 11) (oi := { dst := some 61, op := _, type := _, pos := _, after := _, guard := _ }) (v := ?_) rfl (by kernel_rfl) (by kernel_rfl) (by kernel_rfl) (fun _ _ _ h => h) (Or.inl ⟨by rfl, ?_⟩) (by assumption) ?_
      rotate_left
      · intro w hSw
        first | (go_simp; done) | (go_simp; with_reducible rfl)
      try simp only [Act.put, List.setIfInBounds_toArray, List.set_cons_zero, List.set_cons_succ]
      refine wpAnyH_take (i := 12) (oi := { dst := some 62, op := _, type := _, pos := _, after := _, guard := _ }) (v := ?_) rfl (by kernel_rfl) (by kernel_rfl) (by kernel_rfl) (fun _ _ _ h => h) (Or.inl ⟨by rfl, ?_⟩) (by assumption) ?_
      rotate_left
      · intro w hSw
        first | (go_simp; done) | (go_simp; with_reducible rfl)
      try simp only [Act.put, List.setIfInBounds_toArray, List.set_cons_zero, List.set_cons_succ]
      refine wpAnyH_take (i := 13) (oi := { dst := some 63, op := _, type := _, pos := _, after := _, guard := _ }) (v := ?_) rfl (by kernel_rfl) (by kernel_rfl) (by kernel_rfl) (fun _ _ _ h => h) (Or.inl ⟨by rfl, ?_⟩) (by assumption) ?_
      rotate_left
      · intro w hSw
        first | (go_simp; done) | (go_simp; with_reducible rfl)
      try simp only [Act.put, List.setIfInBounds_toArray, List.set_cons_zero, List.set_cons_succ]
      have HB := below_drew wr
      generalize wr.drew = V0 at *
      refine wpAnyH_ready (rs := [4]) (by kernel_rfl) (by simp) ?_
      refine AllReadyH.cons (o := { dst := some 54, op := _, type := _, pos := _, after := _, guard := _ }) rfl (fun K hK => ?_) AllReadyH.nil
      go_simp
      go_at_call 16
      refine (c16 tk _ _ _ _ (unhide HLk) (by omega) (by omega) ((unhide HRk).below HB (Nat.le_refl _))).mono ?_
      rintro e v4 ⟨rfl, hbn⟩
      have HB := below_then HB hbn
      clear hbn
      try go_wp2_with fail
      refine hK.out _ _ HB (fun hHeld => ?_)
      clear hK K hHeld
      try simp only [Act.put, List.setIfInBounds_toArray, List.set_cons_zero, List.set_cons_succ]
      refine wpAnyH_ready (rs := [9]) (by kernel_rfl) (by simp) ?_
      refine AllReadyH.cons (o := { dst := some 59, op := _, type := _, pos := _, after := _, guard := _ }) rfl (fun K hK => ?_) AllReadyH.nil
      go_simp
      go_at_call 16
      refine (c16 tm _ _ _ _ (unhide HLT) (by omega) (by omega) ((unhide HRm).below HB (Nat.le_refl _))).mono ?_
      rintro e v9 ⟨rfl, hbn⟩
      have HB := below_then HB hbn
      clear hbn
      try go_wp2_with fail
      refine hK.out _ _ HB (fun hHeld => ?_)
      clear hK K hHeld
      try simp only [Act.put, List.setIfInBounds_toArray, List.set_cons_zero, List.set_cons_succ]
      refine wpAnyH_ready (rs := [14]) (by kernel_rfl) (by simp) ?_
      refine AllReadyH.cons (o := { dst := some 64, op := _, type := _, pos := _, after := _, guard := _ }) rfl (fun K hK => ?_) AllReadyH.nil
      go_simp
      go_at_call 21
      refine (c21 tm _ _ _ _ _ (unhide HLT) (by omega) (by omega) ((unhide HRm).below HB (Nat.le_refl _))).mono ?_
      rintro e v14 ⟨u1, rfl, ho1, hbn⟩
      have HB := below_then HB hbn
      obtain ⟨aq, capq, rfl, hcapq, hrq, -⟩ := ho1.row
      clear ho1
      have hq7 := conProof_len (zs := tm) (m := k)
      clear hbn
      try go_wp2_with fail
      refine hK.out _ _ HB (fun hHeld => ?_)
      clear hK K hHeld
      try simp only [Act.put, List.setIfInBounds_toArray, List.set_cons_zero, List.set_cons_succ]
      refine wpAnyH_ready (rs := [15]) (by kernel_rfl) (by simp) ?_
      refine AllReadyH.cons (o := { dst := some 65, op := _, type := _, pos := _, after := _, guard := _ }) rfl (fun K hK => ?_) AllReadyH.nil
      go_simp
      go_at_call 23
      refine (c23 _ _ _ _ _ _ _ _ _ rfl hcapq (by omega) hrq).mono ?_
      rintro e v15 ⟨rfl, hbn⟩
      rw [unhide HC1]
      have HB := below_then HB hbn
      clear hbn
      try go_wp2_with fail
      refine hK.out _ _ HB (fun hHeld => ?_)
      clear hK K hHeld
      try simp only [Act.put, List.setIfInBounds_toArray, List.set_cons_zero, List.set_cons_succ]
      refine wpAnyH_take (i := 16) (oi := { dst := some 66, op := _, type := _, pos := _, after := _, guard := _ }) (v := ?_) rfl (by kernel_rfl) (by kernel_rfl) (by kernel_rfl) (fun _ _ _ h => h) (Or.inl ⟨by rfl, ?_⟩) (by assumption) ?_
      rotate_left
      · intro w hSw
        first | (go_simp; done) | (go_simp; with_reducible rfl)
      try simp only [Act.put, List.setIfInBounds_toArray, List.set_cons_zero, List.set_cons_succ]
      refine wpAnyH_take (i := 17) (oi := { dst := some 67, op := _, type := _, pos := _, after := _, guard := _ }) (v := ?_) rfl (by kernel_rfl) (by kernel_rfl) (by kernel_rfl) (fun _ _ _ h => h) (Or.inl ⟨by rfl, ?_⟩) (by assumption) ?_
      rotate_left
      · intro w hSw
        first | (go_simp; done) | (go_simp; with_reducible rfl)
      try simp only [Act.put, List.setIfInBounds_toArray, List.set_cons_zero, List.set_cons_succ]
      refine wpAnyH_take (i := 18) (oi := { dst := some 68, op := _, type := _, pos := _, after := _, guard := _ }) (v := ?_) rfl (by kernel_rfl) (by kernel_rfl) (by kernel_rfl) (fun _ _ _ h => h) (Or.inl ⟨by rfl, ?_⟩) (by assumption) ?_
      rotate_left
      · intro w hSw
        first | (go_simp; done) | (go_simp; with_reducible rfl)
      try simp only [Act.put, List.setIfInBounds_toArray, List.set_cons_zero, List.set_cons_succ]
      refine wpAnyH_take (i := 19) (oi := { dst := some 69, op := _, type := _, pos := _, after := _, guard := _ }) (v := ?_) rfl (by kernel_rfl) (by kernel_rfl) (by kernel_rfl) (fun _ _ _ h => h) (Or.inl ⟨by rfl, ?_⟩) (by assumption) ?_
      rotate_left
      · intro w hSw
        first | (go_simp; done) | (go_simp; with_reducible rfl)
      try simp only [Act.put, List.setIfInBounds_toArray, List.set_cons_zero, List.set_cons_succ]
      refine wpAnyH_take (i := 20) (oi := { dst := some 70, op := _, type := _, pos := _, after := _, guard := _ }) (v := ?_) rfl (by kernel_rfl) (by kernel_rfl) (by kernel_rfl) (fun _ _ _ h => h) (Or.inl ⟨by rfl, ?_⟩) (by assumption) ?_
      rotate_left
      · intro w hSw
        first | (go_simp; done) | (go_simp; with_reducible rfl)
      try simp only [Act.put, List.setIfInBounds_toArray, List.set_cons_zero, List.set_cons_succ]
      refine wpAnyH_take (i := 21) (oi := { dst := some 71, op := _, type := _, pos := _, after := _, guard := _ }) (v := ?_) rfl (by kernel_rfl) (by kernel_rfl) (by kernel_rfl) (fun _ _ _ h => h) (Or.inl ⟨by rfl, ?_⟩) (by assumption) ?_
      rotate_left
      · intro w hSw
        first | (go_simp; done) | (go_simp; with_reducible rfl)
      try simp only [Act.put, List.setIfInBounds_toArray, List.set_cons_zero, List.set_cons_succ]
      refine wpAnyH_take (i := 23) (oi := { dst := some 73, op := _, type := _, pos := _, after := _, guard := _ }) (v := ?_) rfl (by kernel_rfl) (by kernel_rfl) (by kernel_rfl) (fun _ _ _ h => h) (Or.inl ⟨by rfl, ?_⟩) (by assumption) ?_
      rotate_left
      · intro w hSw
        first | (go_simp; done) | (go_simp; with_reducible rfl)
      try simp only [Act.put, List.setIfInBounds_toArray, List.set_cons_zero, List.set_cons_succ]
      refine wpAnyH_take (i := 24) (oi := { dst := some 74, op := _, type := _, pos := _, after := _, guard := _ }) (v := ?_) rfl (by kernel_rfl) (by kernel_rfl) (by kernel_rfl) (fun _ _ _ h => h) (Or.inl ⟨by rfl, ?_⟩) (by assumption) ?_
      rotate_left
      · intro w hSw
        first | (go_simp; done) | (go_simp; with_reducible rfl)
      try simp only [Act.put, List.setIfInBounds_toArray, List.set_cons_zero, List.set_cons_succ]
      refine wpAnyH_take (i := 26) (oi := { dst := some 76, op := _, type := _, pos := _, after := _, guard := _ }) (v := ?_) rfl (by kernel_rfl) (by kernel_rfl) (by kernel_rfl) (fun _ _ _ h => h) (Or.inl ⟨by rfl, ?_⟩) (by assumption) ?_
      rotate_left
      · intro w hSw
        first | (go_simp; done) | (go_simp; with_reducible rfl)
      try simp only [Act.put, List.setIfInBounds_toArray, List.set_cons_zero, List.set_cons_succ]
      refine wpAnyH_take (i := 27) (oi := { dst := some 77, op := _, type := _, pos := _, after := _, guard := _ }) (v := ?_) rfl (by kernel_rfl) (by kernel_rfl) (by kernel_rfl) (fun _ _ _ h => h) (Or.inl ⟨by rfl, ?_⟩) (by assumption) ?_
      rotate_left
      · intro w hSw
        first | (go_simp; done) | (go_simp; with_reducible rfl)
      try simp only [Act.put, List.setIfInBounds_toArray, List.set_cons_zero, List.set_cons_succ]
      refine wpAnyH_ready (rs := [22]) (by kernel_rfl) (by simp) ?_
      refine AllReadyH.cons (o := { dst := some 72, op := _, type := _, pos := _, after := _, guard := _ }) rfl (fun K hK => ?_) AllReadyH.nil
      go_simp
      go_at_call 16
      refine (c16 tk _ _ _ _ (unhide HLk) (by omega) (by omega) ((unhide HRk).below HB (Nat.le_refl _))).mono ?_
      rintro e v22 ⟨rfl, hbn⟩
      have HB := below_then HB hbn
      clear hbn
      try go_wp2_with fail
      refine hK.out _ _ HB (fun hHeld => ?_)
      clear hK K hHeld
      try simp only [Act.put, List.setIfInBounds_toArray, List.set_cons_zero, List.set_cons_succ]
      refine wpAnyH_ready (rs := [25]) (by kernel_rfl) (by simp) ?_
      refine AllReadyH.cons (o := { dst := some 75, op := _, type := _, pos := _, after := _, guard := _ }) rfl (fun K hK => ?_) AllReadyH.nil
      go_simp
      go_at_call 16
      refine (c16 ys _ _ _ _ rfl hcap1 (by omega) ((unhide HRw).below HB (Nat.le_refl _))).mono ?_
      rintro e v25 ⟨rfl, hbn⟩
      have HB := below_then HB hbn
      clear hbn
      try go_wp2_with fail
      refine hK.out _ _ HB (fun hHeld => ?_)
      clear hK K hHeld
      try simp only [Act.put, List.setIfInBounds_toArray, List.set_cons_zero, List.set_cons_succ]
      refine wpAnyH_ready (rs := [28]) (by kernel_rfl) (by simp) ?_
      refine AllReadyH.cons (o := { dst := some 78, op := _, type := _, pos := _, after := _, guard := _ }) rfl (fun K hK => ?_) AllReadyH.nil
      go_simp
      go_at_call 21
      refine (c21 ys _ _ _ _ _ rfl hcap1 (by omega) ((unhide HRw).below HB (Nat.le_refl _))).mono ?_
      rintro e v28 ⟨u2, rfl, ho2, hbn⟩
      have HB := below_then HB hbn
      obtain ⟨ar, capr, rfl, hcapr, hrr, -⟩ := ho2.row
      clear ho2
      have hr7 := conProof_len (zs := ys) (m := k)
      clear hbn
      try go_wp2_with fail
      refine hK.out _ _ HB (fun hHeld => ?_)
      clear hK K hHeld
      try simp only [Act.put, List.setIfInBounds_toArray, List.set_cons_zero, List.set_cons_succ]
      refine wpAnyH_ready (rs := [29]) (by kernel_rfl) (by simp) ?_
      refine AllReadyH.cons (o := { dst := some 79, op := _, type := _, pos := _, after := _, guard := _ }) rfl (fun K hK => ?_) AllReadyH.nil
      go_simp
      go_at_call 23
      refine (c23 _ _ _ _ _ _ _ _ _ rfl hcapr (by omega) hrr).mono ?_
      rintro e v29 ⟨rfl, hbn⟩
      rw [unhide HC2]
      have HB := below_then HB hbn
      clear hbn
      try go_wp2_with fail
      refine hK.out _ _ HB (fun hHeld => ?_)
      clear hK K hHeld
      try simp only [Act.put, List.setIfInBounds_toArray, List.set_cons_zero, List.set_cons_succ]
      refine wpAnyH_take (i := 30) (oi := { dst := some 80, op := _, type := _, pos := _, after := _, guard := _ }) (v := ?_) rfl (by kernel_rfl) (by kernel_rfl) (by kernel_rfl) (fun _ _ _ h => h) (Or.inl ⟨by rfl, ?_⟩) (by assumption) ?_
      rotate_left
      · intro w hSw
        first | (go_simp; done) | (go_simp; with_reducible rfl)
      try simp only [Act.put, List.setIfInBounds_toArray, List.set_cons_zero, List.set_cons_succ]
      refine wpAnyH_take (i := 31) (oi := { dst := some 81, op := _, type := _, pos := _, after := _, guard := _ }) (v := ?_) rfl (by kernel_rfl) (by kernel_rfl) (by kernel_rfl) (fun _ _ _ h => h) (Or.inl ⟨by rfl, ?_⟩) (by assumption) ?_
      rotate_left
      · intro w hSw
        first | (go_simp; done) | (go_simp; with_reducible rfl)
      try simp only [Act.put, List.setIfInBounds_toArray, List.set_cons_zero, List.set_cons_succ]
      refine wpAnyH_done (by kernel_rfl) ?_ _
      have HBn := hide (below_then (unhide HBW) HB)
      clear HB hrq hrr
      go_wp2_with fail
      go_roundw
      case rel => exact ⟨k + 1, by omega, by omega, by go_num, unhide HBn⟩
      case measure => simp [intOf]; omega
    · have HBW := hide hbel
      clear hbel
      have dlt : decide ((k : Int) ≤ (iN : Int)) = false := by simpa using hlt
      go_wp2_with (go_at_call 17; refine (c17 _).mono ?_; rintro e w'' ⟨rfl, rfl⟩)
      go_ret
      exact ⟨rfl, below_then (unhide HB4) (unhide HBW)⟩
end Go.Proofs.Ytdbnimgbmjeplaa
