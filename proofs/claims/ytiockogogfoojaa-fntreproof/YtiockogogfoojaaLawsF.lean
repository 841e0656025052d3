/-
  The walk of the law FnTreProof: at every code it answers true, and nothing that was there is written.
-/
import Derived.Test.YtiockogogfoojaaHelps
import Derived.Deep.RegionWith
namespace Go.Proofs.Ytiockogogfoojaa
open Go.RowKit
set_option linter.unusedVariables false

set_option maxHeartbeats 3000000 in
theorem law8 (zs : List Int) (ao : Option Addr) (n cap : Nat) (w : World) (hn : zs.length = n) (hc : n ≤ cap) (hm : cap ≤ maxLen) (hB : Bytes w ao zs) :
    Calls Try.prog 8 #[.slice ao n cap] w (Holds w) := by
  have HM := hide hm
  unfold maxLen at hm
  have HB := hide hB
  clear hB
  by_cases hbig : (1048576 : Int) < (n : Int)
  · go_enter Try.func8, Try.ntmps8
    go_wp2_with fail
    go_ret
    exact ⟨rfl, Below.refl _ _⟩
  go_enter Try.func8, Try.ntmps8
  go_wp2_with fail
  refine (c42 zs ao n cap _ hn hc (unhide HM) (unhide HB)).mono ?_
  rintro e w1 ⟨v, ys, i, rfl, ho, hy, hi, hb⟩
  obtain ⟨ao1, cap1, rfl, hcap1, hr, -⟩ := ho.row
  have HR := hide hr
  have HBe := hide hb
  obtain ⟨hi1, hi2⟩ := hi
  clear ho hr hb HB HM hbig hm hc hn
  go_wp2_with fail
  refine (c43 ys i _ _ _ _ rfl hcap1 (by omega) (unhide HR)).mono ?_
  rintro e w2 ⟨v2, rfl, ho2, hb2⟩
  obtain ⟨ao2, cap2, rfl, hcap2, hr2⟩ := Told.row ho2
  have HR1 := hide ((unhide HR).below hb2 (Nat.le_refl _))
  have HR2 := hide hr2
  have HB2 := hide (below_then (unhide HBe) hb2)
  clear ho2 hr2 hb2 HR HBe
  go_wp2_with fail
  refine (c45 ys i _ _ _ _ rfl hcap1 (by omega) (unhide HR1)).mono ?_
  rintro e w3 ⟨v3, rfl, ho3, hb3⟩
  obtain ⟨ao3, cap3, rfl, hcap3, hr3⟩ := Told.row ho3
  have HR1b := hide ((unhide HR1).below hb3 (Nat.le_refl _))
  have HR2b := hide ((unhide HR2).below hb3 (Nat.le_refl _))
  have HR3 := hide hr3
  have HB3 := hide (below_then (unhide HB2) hb3)
  have hl6 := treProof_len (zs := ys) (i := i)
  clear ho3 hr3 hb3 HR1 HR2 HB2
  go_wp2_with fail
  refine (c44 (Tm.treProof ys i) (Tm.treProof ys i) _ _ _ _ _ _ _ rfl rfl (by omega) (by omega) (unhide HR2b) (unhide HR3)).mono ?_
  rintro e w4 ⟨rfl, q, rfl⟩
  rw [decide_self]
  have HR1c := hide ((unhide HR1b).drewN q)
  have HR2c := hide ((unhide HR2b).drewN q)
  have HB4 := hide (below_drewN (unhide HB3) q)
  clear HR1b HR2b HR3 HB3
  generalize w3.drewN q = w4 at *
  rcases hok : Tm.treOk ys with _ | _
  · have hz := treProof_no (zs := ys) (i := i) (by rw [hok]; simp)
    rw [hz]
    clear hz
    go_wp2_with (first | (go_at_call 35; refine (c35 ys _ _ _ _ rfl (by omega) (unhide HR1c)).mono ?_; rintro e w' ⟨rfl, rfl⟩) | (go_at_call 29; refine (c29 _).mono ?_; rintro e w' ⟨rfl, rfl⟩))
    go_ret
    exact ⟨rfl, unhide HB4⟩
  by_cases hneg : i < 0
  · have hz := treProof_no (zs := ys) (i := i) (by omega)
    rw [hz]
    clear hz
    go_wp2_with (first | (go_at_call 35; refine (c35 ys _ _ _ _ rfl (by omega) (unhide HR1c)).mono ?_; rintro e w' ⟨rfl, rfl⟩) | (go_at_call 29; refine (c29 _).mono ?_; rintro e w' ⟨rfl, rfl⟩))
    go_ret
    exact ⟨rfl, unhide HB4⟩
  have dneg : decide (i < 0) = false := by simpa using hneg
  by_cases hge : (ys.length : Int) ≤ i
  · have hz := treProof_no (zs := ys) (i := i) (by omega)
    rw [hz]
    clear hz
    go_wp2_with (first | (go_at_call 35; refine (c35 ys _ _ _ _ rfl (by omega) (unhide HR1c)).mono ?_; rintro e w' ⟨rfl, rfl⟩) | (go_at_call 29; refine (c29 _).mono ?_; rintro e w' ⟨rfl, rfl⟩))
    go_ret
    exact ⟨rfl, unhide HB4⟩
  have dge : decide ((ys.length : Int) ≤ i) = false := by simpa using hge
  obtain ⟨iN, rfl⟩ := Int.eq_ofNat_of_zero_le (show 0 ≤ i by omega)
  have hpo := treProof_of (zs := ys) (i := iN) ⟨hok, by omega, by omega⟩
  rw [Int.toNat_natCast] at hpo
  rw [hpo] at HR2c hl6 hcap2
  rw [hpo]
  clear hpo
  obtain ⟨t1, t2⟩ := treOk_len hok
  have hch := check_prf hok (i := iN) (by omega)
  have hhi := Tm.prf_len _ ys iN (Nat.le_refl _) t1
  have hmore : 2 ≤ ys.length → 0 < (Tm.prf ys iN).length := by
    intro h2
    by_cases hs : iN < Tm.sp ys
    · rw [Tm.prf_left h2 t1 hs]; simp
    · rw [Tm.prf_right h2 t1 hs]; simp
  obtain ⟨b, off, rfl, hcs⟩ := (unhide HR1c).2 (by intro e; subst e; simp at hge)
  have hcell := hcs iN (by omega)
  have HCH := hide hch
  have HHI := hide hhi
  have HMO := hide hmore
  have HCell := hide hcell
  generalize Tm.prf ys iN = ps at *
  generalize ys.getD iN 0 = x at *
  clear hcs hch hhi hmore hcell t2
  go_wp2_with (go_at_call 35; refine (c35 ys _ _ _ _ rfl (by omega) (unhide HR1c)).mono ?_; rintro e w' ⟨rfl, rfl⟩)
  go_loop [6, 7] (fun th tk => ∃ (h : Nat) (k : Int), ((k = 1 ∧ h = 0) ∨ (k = 2 ∧ h = 1) ∨ (k = 4 ∧ h = 2) ∨ (k = 8 ∧ h = 3) ∨ (k = 16 ∧ h = 4) ∨ (k = 32 ∧ h = 5) ∨ (k = 64 ∧ h = 6)) ∧ (h = 0 ∨ k < 2 * (ys.length : Int)) ∧ tk = .int .i64 k ∧ th = .int .i64 h) (fun _ tk => (64 - intOf tk).toNat)
  case atStart => exact ⟨0, 1, by omega, by omega, rfl, rfl⟩
  case round =>
    obtain ⟨h, k, hk, hk2, rfl, rfl⟩ := hrel
    have k1 : 1 ≤ k := by omega
    have k2 : k ≤ 64 := by omega
    have k3 : h ≤ 6 := by omega
    have HK := hide hk
    have HK2 := hide hk2
    clear hk hk2
    by_cases hlt : k < (ys.length : Int)
    · go_wp2_with fail
      go_round
      case rel => exact ⟨h + 1, 2 * k, by have := unhide HK; omega, by have := unhide HK; omega, rfl, by go_num⟩
      case measure => simp [intOf]; have := unhide HK; omega
    · have hhh := high_is (unhide HK) (unhide HK2) (by omega) t1
      have hle : (ps.length : Int) ≤ (h : Int) := by have := unhide HHI; rw [hhh] at this; omega
      clear hhh
      have j0 : (0 : Int) ≤ (iN : Int) := by omega
      have j1 : (iN : Int) < (ys.length : Int) := by omega
      have hmo := unhide HMO
      have hcell := unhide HCell
      clear HMO HHI HCell HK HK2
      by_cases h2 : (ys.length : Int) < 2
      · clear hmo
        go_wp2_with fail
        have hW0 := below_drew w'
        refine wp_region_held_drew (S := (fun w'' => w''.cell? ⟨b, off + iN, none⟩ = some (.int .i64 x) ∧ Below w'.heap.size w' w'')) (by kernel_rfl) ?_ (fun hHeld => ?_)
        · try dsimp only
          (refine ⟨cell_below ?_ hcell, ?_⟩ <;> assumption)
        refine wpAnyH_take (i := 0) (oi := { dst := some 52, op := _, type := _, pos := _, after := _, guard := _ }) (v := ?_) rfl (by kernel_rfl) (by kernel_rfl) (by kernel_rfl) (fun _ _ _ h => h) (Or.inl ⟨by rfl, ?_⟩) (by assumption) ?_
        rotate_left
        · intro w hSw
          try dsimp only at hSw
          first | (go_simp; done) | (go_simp; with_reducible rfl)
        try simp only [Act.put, List.setIfInBounds_toArray, List.set_cons_zero, List.set_cons_succ]
        refine wpAnyH_take (i := 2) (oi := { dst := some 54, op := _, type := _, pos := _, after := _, guard := _ }) (v := ?_) rfl (by kernel_rfl) (by kernel_rfl) (by kernel_rfl) (fun _ _ _ h => h) (Or.inl ⟨by rfl, ?_⟩) (by assumption) ?_
        rotate_left
        · intro w hSw
          try dsimp only at hSw
          first | (go_simp; done) | (go_simp; with_reducible rfl)
        try simp only [Act.put, List.setIfInBounds_toArray, List.set_cons_zero, List.set_cons_succ]
        refine wpAnyH_take (i := 3) (oi := { dst := some 55, op := _, type := _, pos := _, after := _, guard := _ }) (v := ?_) rfl (by kernel_rfl) (by kernel_rfl) (by kernel_rfl) (fun _ _ _ h => h) (Or.inl ⟨by rfl, ?_⟩) (by assumption) ?_
        rotate_left
        · intro w hSw
          try dsimp only at hSw
          first | (go_simp; done) | (go_simp; with_reducible rfl)
        try simp only [Act.put, List.setIfInBounds_toArray, List.set_cons_zero, List.set_cons_succ]
        refine wpAnyH_take (i := 4) (oi := { dst := some 56, op := _, type := _, pos := _, after := _, guard := _ }) (v := ?_) rfl (by kernel_rfl) (by kernel_rfl) (by kernel_rfl) (fun _ _ _ h => h) (Or.inl ⟨by rfl, ?_⟩) (by assumption) ?_
        rotate_left
        · intro w hSw
          try dsimp only at hSw
          first | (go_simp; done) | (go_simp; with_reducible rfl)
        try simp only [Act.put, List.setIfInBounds_toArray, List.set_cons_zero, List.set_cons_succ]
        refine wpAnyH_take (i := 5) (oi := { dst := some 57, op := _, type := _, pos := _, after := _, guard := _ }) (v := ?_) rfl (by kernel_rfl) (by kernel_rfl) (by kernel_rfl) (fun _ _ _ h => h) (Or.inl ⟨by rfl, ?_⟩) (by assumption) ?_
        rotate_left
        · intro w hSw
          try dsimp only at hSw
          first | (go_simp; done) | (go_simp; with_reducible rfl)
        try simp only [Act.put, List.setIfInBounds_toArray, List.set_cons_zero, List.set_cons_succ]
        refine wpAnyH_take (i := 6) (oi := { dst := some 58, op := _, type := _, pos := _, after := _, guard := _ }) (v := ?_) rfl (by kernel_rfl) (by kernel_rfl) (by kernel_rfl) (fun _ _ _ h => h) (Or.inl ⟨by rfl, ?_⟩) (by assumption) ?_
        rotate_left
        · intro w hSw
          try dsimp only at hSw
          first | (go_simp; done) | (go_simp; with_reducible rfl)
        try simp only [Act.put, List.setIfInBounds_toArray, List.set_cons_zero, List.set_cons_succ]
        refine wpAnyH_take (i := 7) (oi := { dst := some 59, op := _, type := _, pos := _, after := _, guard := _ }) (v := ?_) rfl (by kernel_rfl) (by kernel_rfl) (by kernel_rfl) (fun _ _ _ h => h) (Or.inl ⟨by rfl, ?_⟩) (by assumption) ?_
        rotate_left
        · intro w hSw
          try dsimp only at hSw
          first | (go_simp; done) | (go_simp; with_reducible rfl)
        try simp only [Act.put, List.setIfInBounds_toArray, List.set_cons_zero, List.set_cons_succ]
        refine wpAnyH_take (i := 8) (oi := { dst := some 60, op := _, type := _, pos := _, after := _, guard := _ }) (v := ?_) rfl (by kernel_rfl) (by kernel_rfl) (by kernel_rfl) (fun _ _ _ h => h) (Or.inl ⟨by rfl, ?_⟩) (by assumption) ?_
        rotate_left
        · intro w hSw
          try dsimp only at hSw
          first | (go_simp; done) | (go_simp; with_reducible rfl)
        try simp only [Act.put, List.setIfInBounds_toArray, List.set_cons_zero, List.set_cons_succ]
        refine wpAnyH_take (i := 9) (oi := { dst := some 61, op := _, type := _, pos := _, after := _, guard := _ }) (v := ?_) rfl (by kernel_rfl) (by kernel_rfl) (by kernel_rfl) (fun _ _ _ h => h) (Or.inl ⟨by rfl, ?_⟩) (by assumption) ?_
        rotate_left
        · intro w hSw
          try dsimp only at hSw
          first | (go_simp; done) | (go_simp; with_reducible rfl)
        try simp only [Act.put, List.setIfInBounds_toArray, List.set_cons_zero, List.set_cons_succ]
        refine wpAnyH_ready (rs := [1]) (by kernel_rfl) (by simp) ?_
        refine AllReadyH.cons (o := { dst := some 53, op := _, type := _, pos := _, after := _, guard := _ }) rfl (fun K hK => ?_) ?_
        rotate_left
        · exact AllReadyH.nil
        go_simp
        first | (go_at_call 40; refine (c40 ys _ _ _ _ rfl hcap1 (by omega) (by exact (unhide HR1c).drew)).mono ?_; rintro e w5 ⟨rfl, hb5⟩; have hb6 := below_undrew hb5) | (go_wp2_with ((go_at_call 40; refine (c40 ys _ _ _ _ rfl hcap1 (by omega) (by exact (unhide HR1c).drew)).mono ?_; rintro e w5 ⟨rfl, hb5⟩; have hb6 := below_undrew hb5)))
        try go_wp2_with fail
        refine hK.out _ _ ?_ (fun hHeld => ?_)
        · try dsimp only
          (refine ⟨cell_below ?_ hcell, ?_⟩ <;> assumption)
        clear hK K
        try simp only [Act.put, List.setIfInBounds_toArray, List.set_cons_zero, List.set_cons_succ]
        refine wpAnyH_ready (rs := [10]) (by kernel_rfl) (by simp) ?_
        refine AllReadyH.cons (o := { dst := some 62, op := _, type := _, pos := _, after := _, guard := _ }) rfl (fun K hK => ?_) ?_
        rotate_left
        · exact AllReadyH.nil
        go_simp
        first | (go_at_call 46; refine (c46 ps _ _ _ _ _ _ _ _ rfl hcap2 (by omega) (by exact (unhide HR2c).below hb6 (Nat.le_refl _))).mono ?_; rintro e w6 ⟨rfl, hb7⟩; rw [unhide HCH]; have hb8 := below_then hb6 hb7) | (go_wp2_with ((go_at_call 46; refine (c46 ps _ _ _ _ _ _ _ _ rfl hcap2 (by omega) (by exact (unhide HR2c).below hb6 (Nat.le_refl _))).mono ?_; rintro e w6 ⟨rfl, hb7⟩; rw [unhide HCH]; have hb8 := below_then hb6 hb7)))
        try go_wp2_with fail
        refine hK.out _ _ ?_ (fun hHeld => ?_)
        · try dsimp only
          (refine ⟨cell_below ?_ hcell, ?_⟩ <;> assumption)
        clear hK K
        try simp only [Act.put, List.setIfInBounds_toArray, List.set_cons_zero, List.set_cons_succ]
        refine wpAnyH_take (i := 11) (oi := { dst := some 63, op := _, type := _, pos := _, after := _, guard := _ }) (v := ?_) rfl (by kernel_rfl) (by kernel_rfl) (by kernel_rfl) (fun _ _ _ h => h) (Or.inl ⟨by rfl, ?_⟩) (by assumption) ?_
        rotate_left
        · intro w hSw
          try dsimp only at hSw
          first | (go_simp; done) | (go_simp; with_reducible rfl)
        try simp only [Act.put, List.setIfInBounds_toArray, List.set_cons_zero, List.set_cons_succ]
        refine wpAnyH_take (i := 12) (oi := { dst := some 64, op := _, type := _, pos := _, after := _, guard := _ }) (v := ?_) rfl (by kernel_rfl) (by kernel_rfl) (by kernel_rfl) (fun _ _ _ h => h) (Or.inl ⟨by rfl, ?_⟩) (by assumption) ?_
        rotate_left
        · intro w hSw
          try dsimp only at hSw
          first | (go_simp; done) | (go_simp; with_reducible rfl)
        try simp only [Act.put, List.setIfInBounds_toArray, List.set_cons_zero, List.set_cons_succ]
        refine wpAnyH_take (i := 13) (oi := { dst := some 65, op := _, type := _, pos := _, after := _, guard := _ }) (v := ?_) rfl (by kernel_rfl) (by kernel_rfl) (by kernel_rfl) (fun _ _ _ h => h) (Or.inl ⟨by rfl, ?_⟩) (by assumption) ?_
        rotate_left
        · intro w hSw
          try dsimp only at hSw
          first | (go_simp; done) | (go_simp; with_reducible rfl)
        try simp only [Act.put, List.setIfInBounds_toArray, List.set_cons_zero, List.set_cons_succ]
        refine wpAnyH_take (i := 14) (oi := { dst := some 66, op := _, type := _, pos := _, after := _, guard := _ }) (v := ?_) rfl (by kernel_rfl) (by kernel_rfl) (by kernel_rfl) (fun _ _ _ h => h) (Or.inl ⟨by rfl, ?_⟩) (by assumption) ?_
        rotate_left
        · intro w hSw
          try dsimp only at hSw
          first | (go_simp; done) | (go_simp; with_reducible rfl)
        try simp only [Act.put, List.setIfInBounds_toArray, List.set_cons_zero, List.set_cons_succ]
        refine wpAnyH_take (i := 15) (oi := { dst := some 67, op := _, type := _, pos := _, after := _, guard := _ }) (v := ?_) rfl (by kernel_rfl) (by kernel_rfl) (by kernel_rfl) (fun _ _ _ h => h) (Or.inl ⟨by rfl, ?_⟩) (by assumption) ?_
        rotate_left
        · intro w hSw
          try dsimp only at hSw
          first | (go_simp; done) | (go_simp; with_reducible rfl)
        try simp only [Act.put, List.setIfInBounds_toArray, List.set_cons_zero, List.set_cons_succ]
        refine wpAnyH_take (i := 16) (oi := { dst := some 68, op := _, type := _, pos := _, after := _, guard := _ }) (v := ?_) rfl (by kernel_rfl) (by kernel_rfl) (by kernel_rfl) (fun _ _ _ h => h) (Or.inl ⟨by rfl, ?_⟩) (by assumption) ?_
        rotate_left
        · intro w hSw
          try dsimp only at hSw
          first | (go_simp; done) | (go_simp; with_reducible rfl)
        try simp only [Act.put, List.setIfInBounds_toArray, List.set_cons_zero, List.set_cons_succ]
        refine wpAnyH_take (i := 17) (oi := { dst := some 69, op := _, type := _, pos := _, after := _, guard := _ }) (v := ?_) rfl (by kernel_rfl) (by kernel_rfl) (by kernel_rfl) (fun _ _ _ h => h) (Or.inl ⟨by rfl, ?_⟩) (by assumption) ?_
        rotate_left
        · intro w hSw
          try dsimp only at hSw
          first | (go_simp; done) | (go_simp; with_reducible rfl)
        try simp only [Act.put, List.setIfInBounds_toArray, List.set_cons_zero, List.set_cons_succ]
        refine wpAnyH_take (i := 18) (oi := { dst := some 70, op := _, type := _, pos := _, after := _, guard := _ }) (v := ?_) rfl (by kernel_rfl) (by kernel_rfl) (by kernel_rfl) (fun _ _ _ h => h) (Or.inl ⟨by rfl, ?_⟩) (by assumption) ?_
        rotate_left
        · intro w hSw
          try dsimp only at hSw
          first | (go_simp; done) | (go_simp; with_reducible rfl)
        try simp only [Act.put, List.setIfInBounds_toArray, List.set_cons_zero, List.set_cons_succ]
        refine wpAnyH_take (i := 19) (oi := { dst := some 71, op := _, type := _, pos := _, after := _, guard := _ }) (v := ?_) rfl (by kernel_rfl) (by kernel_rfl) (by kernel_rfl) (fun _ _ _ h => h) (Or.inl ⟨by rfl, ?_⟩) (by assumption) ?_
        rotate_left
        · intro w hSw
          try dsimp only at hSw
          first | (go_simp; done) | (go_simp; with_reducible rfl)
        try simp only [Act.put, List.setIfInBounds_toArray, List.set_cons_zero, List.set_cons_succ]
        refine wpAnyH_take (i := 20) (oi := { dst := some 72, op := _, type := _, pos := _, after := _, guard := _ }) (v := ?_) rfl (by kernel_rfl) (by kernel_rfl) (by kernel_rfl) (fun _ _ _ h => h) (Or.inl ⟨by rfl, ?_⟩) (by assumption) ?_
        rotate_left
        · intro w hSw
          try dsimp only at hSw
          first | (go_simp; done) | (go_simp; with_reducible rfl)
        try simp only [Act.put, List.setIfInBounds_toArray, List.set_cons_zero, List.set_cons_succ]
        refine wpAnyH_take (i := 21) (oi := { dst := some 73, op := _, type := _, pos := _, after := _, guard := _ }) (v := ?_) rfl (by kernel_rfl) (by kernel_rfl) (by kernel_rfl) (fun _ _ _ h => h) (Or.inl ⟨by rfl, ?_⟩) (by assumption) ?_
        rotate_left
        · intro w hSw
          try dsimp only at hSw
          first | (go_simp; done) | (go_simp; with_reducible rfl)
        try simp only [Act.put, List.setIfInBounds_toArray, List.set_cons_zero, List.set_cons_succ]
        refine wpAnyH_take (i := 22) (oi := { dst := some 74, op := _, type := _, pos := _, after := _, guard := _ }) (v := undef) rfl (by kernel_rfl) (by kernel_rfl) (by kernel_rfl) (fun _ _ _ h => h) (Or.inr ⟨by rfl, rfl⟩) (by assumption) ?_
        try simp only [Act.put, List.setIfInBounds_toArray, List.set_cons_zero, List.set_cons_succ]
        refine wpAnyH_take (i := 23) (oi := { dst := some 75, op := _, type := _, pos := _, after := _, guard := _ }) (v := undef) rfl (by kernel_rfl) (by kernel_rfl) (by kernel_rfl) (fun _ _ _ h => h) (Or.inr ⟨by rfl, rfl⟩) (by assumption) ?_
        try simp only [Act.put, List.setIfInBounds_toArray, List.set_cons_zero, List.set_cons_succ]
        refine wpAnyH_take (i := 24) (oi := { dst := some 76, op := _, type := _, pos := _, after := _, guard := _ }) (v := undef) rfl (by kernel_rfl) (by kernel_rfl) (by kernel_rfl) (fun _ _ _ h => h) (Or.inr ⟨by rfl, rfl⟩) (by assumption) ?_
        try simp only [Act.put, List.setIfInBounds_toArray, List.set_cons_zero, List.set_cons_succ]
        refine wpAnyH_take (i := 25) (oi := { dst := some 77, op := _, type := _, pos := _, after := _, guard := _ }) (v := ?_) rfl (by kernel_rfl) (by kernel_rfl) (by kernel_rfl) (fun _ _ _ h => h) (Or.inl ⟨by rfl, ?_⟩) (by assumption) ?_
        rotate_left
        · intro w hSw
          try dsimp only at hSw
          first | (go_simp; done) | (go_simp; with_reducible rfl)
        try simp only [Act.put, List.setIfInBounds_toArray, List.set_cons_zero, List.set_cons_succ]
        refine wpAnyH_take (i := 26) (oi := { dst := some 78, op := _, type := _, pos := _, after := _, guard := _ }) (v := ?_) rfl (by kernel_rfl) (by kernel_rfl) (by kernel_rfl) (fun _ _ _ h => h) (Or.inl ⟨by rfl, ?_⟩) (by assumption) ?_
        rotate_left
        · intro w hSw
          try dsimp only at hSw
          first | (go_simp; done) | (go_simp; with_reducible rfl)
        try simp only [Act.put, List.setIfInBounds_toArray, List.set_cons_zero, List.set_cons_succ]
        refine wpAnyH_take (i := 27) (oi := { dst := some 2, op := _, type := _, pos := _, after := _, guard := _ }) (v := ?_) rfl (by kernel_rfl) (by kernel_rfl) (by kernel_rfl) (fun _ _ _ h => h) (Or.inl ⟨by rfl, ?_⟩) (by assumption) ?_
        rotate_left
        · intro w hSw
          try dsimp only at hSw
          first | (go_simp; done) | (go_simp; with_reducible rfl)
        try simp only [Act.put, List.setIfInBounds_toArray, List.set_cons_zero, List.set_cons_succ]
        refine wpAnyH_done (by kernel_rfl) ?_ _
        all_goals
          have HBg := hide (below_then (unhide HB4) hb8)
          clear hb5 hb6 hb7 hb8 hW0
          go_wp2_with fail
          go_ret
          exact ⟨rfl, unhide HBg⟩
      · have d2 : decide ((ys.length : Int) < 2) = false := by simpa using h2
        have hpos : (0 : Int) < (ps.length : Int) := by have := hmo (by omega); omega
        clear hmo
        go_wp2_with fail
        have hW0 := below_drew w'
        go_region_held3 (fun w'' => w''.cell? ⟨b, off + iN, none⟩ = some (.int .i64 x) ∧ Below w'.heap.size w' w'') (refine ⟨cell_below ?_ hcell, ?_⟩ <;> assumption) (first | (go_at_call 40; refine (c40 ys _ _ _ _ rfl hcap1 (by omega) (by exact (unhide HR1c).drew)).mono ?_; rintro e w5 ⟨rfl, hb5⟩; have hb6 := below_undrew hb5) | (go_at_call 46; refine (c46 ps _ _ _ _ _ _ _ _ rfl hcap2 (by omega) (by exact (unhide HR2c).below hb6 (Nat.le_refl _))).mono ?_; rintro e w6 ⟨rfl, hb7⟩; rw [unhide HCH]; have hb8 := below_then hb6 hb7))
        have HBg := hide (below_then (unhide HB4) hb8)
        clear hb5 hb6 hb7 hb8 hW0
        go_wp2_with fail
        go_ret
        exact ⟨ret_bool (decide_eq_true (by omega)), unhide HBg⟩
end Go.Proofs.Ytiockogogfoojaa
