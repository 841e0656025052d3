/-
  The walk of the law FnOwnOf: at every code it answers true, and nothing that was there is written.
-/
import Derived.Test.YtimaidcjccakeaaDrr
import Derived.Test.YtimaidcjccakeaaLawshk
namespace Go.Proofs.Ytimaidcjccakeaa
open Go.RowKit
set_option linter.unusedVariables false
set_option maxRecDepth 100000

theorem ownTo_cnt (rs : List Tm.Rw) (u : Int) : ∀ k, k ≤ rs.length → (ownTo rs u k).length = ((rs.take k).filter (fun r => decide (r.1 = u))).length := by
  intro k
  induction k with
  | zero => intro _; simp [ownTo]
  | succ k ih =>
    intro hk
    obtain ⟨a, c, d, hj⟩ := r_at (show k < rs.length by omega)
    rw [List.take_add_one, hj, List.filter_append, List.length_append, ← ih (by omega)]
    by_cases h : a = u
    · rw [ownTo_yes hj h]; simp [h]
    · rw [ownTo_not hj h]; simp [h]
theorem ownOf_cnt (rs : List Tm.Rw) (u : Int) : (Tm.ownOf rs u).length = (rs.filter (fun r => decide (r.1 = u))).length := by
  unfold Tm.ownOf; rw [ownTo_cnt rs u rs.length (Nat.le_refl _), List.take_length]
theorem ownTo_at (rs : List Tm.Rw) (u : Int) : ∀ k, k ≤ rs.length → ∀ i, i < (ownTo rs u k).length → ∃ j : Nat, (ownTo rs u k).getD i 0 = (j : Int) ∧ j < k ∧ ∃ c d, rs[j]? = some (u, c, d) := by
  intro k
  induction k with
  | zero => intro _ i hi; simp [ownTo] at hi
  | succ k ih =>
    intro hk i hi
    obtain ⟨a, c, d, hj⟩ := r_at (show k < rs.length by omega)
    by_cases h : a = u
    · rw [ownTo_yes hj h] at hi ⊢
      rw [List.length_append, List.length_singleton] at hi
      by_cases e : i < (ownTo rs u k).length
      · obtain ⟨j, h1, h2, h3⟩ := ih (by omega) i e
        refine ⟨j, ?_, by omega, h3⟩
        rw [← h1]
        simp [List.getD, List.getElem?_append_left e]
      · have e2 : i = (ownTo rs u k).length := by omega
        subst e2
        refine ⟨k, ?_, by omega, c, d, by rw [← h]; exact hj⟩
        simp [List.getD]
    · rw [ownTo_not hj h] at hi ⊢
      obtain ⟨j, h1, h2, h3⟩ := ih (by omega) i hi
      exact ⟨j, h1, by omega, h3⟩
theorem ownTo_asc (rs : List Tm.Rw) (u : Int) : ∀ k, k ≤ rs.length → ∀ i, i + 1 < (ownTo rs u k).length → (ownTo rs u k).getD i 0 < (ownTo rs u k).getD (i + 1) 0 := by
  intro k
  induction k with
  | zero => intro _ i hi; simp [ownTo] at hi
  | succ k ih =>
    intro hk i hi
    obtain ⟨a, c, d, hj⟩ := r_at (show k < rs.length by omega)
    by_cases h : a = u
    · rw [ownTo_yes hj h] at hi ⊢
      rw [List.length_append, List.length_singleton] at hi
      have e0 : i < (ownTo rs u k).length := by omega
      have q0 : (ownTo rs u k ++ [(k : Int)]).getD i 0 = (ownTo rs u k).getD i 0 := by simp [List.getD, List.getElem?_append_left e0]
      rw [q0]
      by_cases e : i + 1 < (ownTo rs u k).length
      · have q1 : (ownTo rs u k ++ [(k : Int)]).getD (i + 1) 0 = (ownTo rs u k).getD (i + 1) 0 := by simp [List.getD, List.getElem?_append_left e]
        rw [q1]
        exact ih (by omega) i e
      · have e2 : i + 1 = (ownTo rs u k).length := by omega
        have q1 : (ownTo rs u k ++ [(k : Int)]).getD (i + 1) 0 = (k : Int) := by rw [e2]; simp [List.getD]
        rw [q1]
        obtain ⟨j, h1, h2, -⟩ := ownTo_at rs u k (by omega) i e0
        rw [h1]; omega
    · rw [ownTo_not hj h] at hi ⊢
      exact ih (by omega) i hi
theorem ownOf_len8 {rs : List Tm.Rw} {n : Nat} (hn : rs.length = n) (h : n ≤ 8) (u : Int) : (Tm.ownOf rs u).length ≤ 8 := by
  have := ownTo_len rs u rs.length
  unfold Tm.ownOf; omega
theorem upto_own (rs : List Tm.Rw) (k : Nat) : Tm.upto (fun r : Tm.Rw => r.1) rs (k + 1) = Tm.upto (fun r : Tm.Rw => r.1) rs k + (Tm.ownOf rs (k : Int)).length := by rw [ownOf_cnt]; rfl
theorem upto_own_le (rs : List Tm.Rw) (k : Nat) : Tm.upto (fun r : Tm.Rw => r.1) rs k ≤ rs.length := by rw [Tm.upto_all]; exact List.length_filter_le _ _

set_option maxHeartbeats 8000000 in
theorem law9 (bs : List Int) (ao : Option Addr) (n cap : Nat) (w : World) (hn : bs.length = n) (hc : n ≤ cap) (hm : cap ≤ maxLen) (hB : Bytes w ao bs) :
    Calls Try.prog 9 #[.slice ao n cap] w (Holds w) := by
  have HM := hide hm
  unfold maxLen at hm
  have HBY := hide hB
  have HN := hide hn
  have HB := hide (Below.refl w.heap.size w)
  clear hB hn
  by_cases hbig : (1048576 : Int) < (n : Int)
  case pos =>
    go_enter Try.func9, Try.ntmps9
    go_wp2_with fail
    go_ret
    exact ⟨rfl, unhide HB⟩
  go_enter Try.func9, Try.ntmps9
  go_wp2_with fail
  refine (c65 bs ao n cap _ HN.out hc (unhide HM) (unhide HBY)).mono ?_
  rintro e w1 ⟨ar, nr, cr, rs, t, rfl, hnr, h8, hcr, ht, hr, hb⟩
  replace HB := hide (below_tr (unhide HB) hb)
  clear HBY
  have HR := hide (hr)
  clear hb hr
  have HNR := hide hnr
  have hl8 := ownOf_len8 hnr h8 t
  have HAT := hide (fun i hi => ownTo_at rs t rs.length (Nat.le_refl _) i hi)
  have HAS := hide (fun i hi => ownTo_asc rs t rs.length (Nat.le_refl _) i hi)
  have HZ : Hid (ownTo rs t rs.length = Tm.ownOf rs t) := rfl
  rw [unhide HZ] at HAT HAS
  clear HZ hnr
  generalize hys : Tm.ownOf rs t = ys at *
  have HYS := hide hys
  clear hys
  go_wp2_with fail
  refine (c66 rs t ar nr cr _ (unhide HNR) (by omega) (unhide HR)).mono ?_
  rintro e w2 ⟨v, rfl, ho, hb⟩
  rw [unhide HYS] at ho
  obtain ⟨ay, cy, rfl, hcy, hry, -⟩ := ho.row
  replace HB := hide (below_tr (unhide HB) hb)
  replace HR := hide ((unhide HR).bel hb)
  have HY := hide (hry)
  clear hb ho hry
  go_wp2_with fail
  refine (c67 rs t ar nr cr _ (unhide HNR) (by omega) (unhide HR)).mono ?_
  rintro e w3 ⟨v, rfl, ho, hb⟩
  rw [unhide HYS] at ho
  obtain ⟨az, cz, rfl, hcz, hry, -⟩ := ho.row
  replace HB := hide (below_tr (unhide HB) hb)
  replace HR := hide ((unhide HR).bel hb)
  replace HY := hide ((unhide HY).bel hb)
  have HZ := hide (hry)
  clear hb ho hry
  go_wp2_with fail
  refine (dnB (c32 ys ys ay az ys.length cy ys.length cz _ rfl rfl (by omega) (by omega) (unhide HY) (unhide HZ))).mono ?_
  rintro e w4 ⟨rfl, hb⟩
  rw [decide_eq_true (rfl : ys = ys)]
  replace HB := hide (below_tr (unhide HB) hb)
  replace HR := hide ((unhide HR).bel hb)
  replace HY := hide ((unhide HY).bel hb)
  clear HZ
  clear hb
  go_wp2_with fail
  refine (c68 rs t ar nr cr _ (unhide HNR) (by omega) (unhide HR)).mono ?_
  rintro e w5 ⟨rfl, hb⟩
  rw [unhide HYS]
  replace HB := hide (below_tr (unhide HB) hb)
  replace HR := hide ((unhide HR).bel hb)
  replace HY := hide ((unhide HY).bel hb)
  clear hb
  go_wp2_with fail
  refine (c69 rs t ar nr cr _ (unhide HNR) (by omega) (unhide HR)).mono ?_
  rintro e w6 ⟨rfl, hb⟩
  rw [unhide HYS]
  replace HB := hide (below_tr (unhide HB) hb)
  replace HR := hide ((unhide HR).bel hb)
  replace HY := hide ((unhide HY).bel hb)
  clear hb
  go_wp2_with fail
  go_loopw [6, 7] (fun m i wr => ∃ k : Nat, k ≤ 6 ∧ i = .int .i64 k ∧ m = .int .i64 (Tm.upto (fun r : Tm.Rw => r.1) rs k : Nat) ∧ BelowOf w6 wr) (fun _ i _ => 6 - (intOf i).toNat)
  case atStart => exact ⟨0, Nat.zero_le _, rfl, rfl, Below.refl _ _⟩
  case round =>
    obtain ⟨k, hk, rfl, rfl, hbw⟩ := hrel
    have hb : Below w6.heap.size w6 wr := hbw
    have HBW := hide hbw
    clear hbw
    replace HB := hide (below_tr (unhide HB) hb)
    replace HR := hide ((unhide HR).bel hb)
    replace HY := hide ((unhide HY).bel hb)
    clear hb
    have hul := upto_own_le rs k
    have HU := hide (upto_own rs k)
    have HNL := hide (unhide HNR)
    by_cases hlt : (k : Int) ≤ 5
    case pos =>
      rw [unhide HNR] at hul
      generalize hu : Tm.upto (fun r : Tm.Rw => r.1) rs k = uu at *
      have hq8 := ownOf_len8 (unhide HNR) h8 (k : Int)
      generalize hq : Tm.ownOf rs (k : Int) = q at *
      have HQ := hide hq
      clear hu hq
      go_wp2_with fail
      refine (c66 rs (k : Int) ar nr cr _ (unhide HNR) (by omega) (unhide HR)).mono ?_
      rintro e u1 ⟨v, rfl, ho, hb⟩
      rw [unhide HQ] at ho
      obtain ⟨aq, cq, rfl, -, -, -⟩ := ho.row
      replace HB := hide (below_tr (unhide HB) hb)
      replace HR := hide ((unhide HR).bel hb)
      replace HY := hide ((unhide HY).bel hb)
      replace HBW := hide ((unhide HBW).bel hb)
      clear hb ho
      go_wp2_with fail
      go_roundw
      case rel => exact ⟨k + 1, by omega, by go_num, by rw [unhide HU]; go_num, unhide HBW⟩
      case measure => simp [intOf]; omega
    have hk6 : k = 6 := by omega
    subst hk6
    rw [show ((6 : Nat) : Int) = 6 from rfl]
    clear HU hk hlt HBW HNL
    have HS := hide (fun h => Tm.own_sum (rs := rs) h)
    generalize Tm.upto (fun r : Tm.Rw => r.1) rs 6 = tot at *
    go_wp2_with fail
    obtain ⟨WA, hWA⟩ : ∃ A : World, A = wr := ⟨_, rfl⟩
    subst hWA
    go_loopw [8] (fun i wq => ∃ k : Nat, k ≤ ys.length ∧ i = .int .i64 k ∧ BelowOf WA wq) (fun i _ => ys.length - (intOf i).toNat)
    case atStart => exact ⟨0, Nat.zero_le _, rfl, Below.refl _ _⟩
    case round =>
      obtain ⟨k, hk, rfl, hbw⟩ := hrel
      have hb := hbw
      unfold BelowOf at hb
      have HBW := hide hbw
      clear hbw
      replace HB := hide (below_tr (unhide HB) hb)
      replace HR := hide ((unhide HR).bel hb)
      replace HY := hide ((unhide HY).bel hb)
      clear hb
      by_cases hlt : (k : Int) < (ys.length : Int)
      case pos =>
        have hltN : k < ys.length := by omega
        obtain ⟨j, hj1, hj2, c, d, hj3⟩ := unhide HAT k hltN
        obtain ⟨b, off, rfl, hcc⟩ := (unhide HR).2 (by intro e; subst e; simp at hj3)
        have hrow := (r_cells (Below.refl _ _) hcc hj3).1
        obtain ⟨b', off', rfl, hcv⟩ := (unhide HY).2 (by intro e; subst e; simp at hltN)
        have hcx := hcv k hltN
        rw [hj1] at hcx
        have HC0 := hide hrow
        have HCX := hide hcx
        have hjn : (j : Int) < (nr : Int) := by have := unhide HNR; omega
        have hj0 : (0 : Int) ≤ (j : Int) := by omega
        have hbn : (t != t) = false := by simp
        clear hrow hcx hcc hj3
        by_cases hz : k = 0
        case pos =>
          subst hz
          (try simp only [Nat.add_zero] at HCX)
          clear hcv
          go_wp2_with fail
          refine wp_region_held_drew (S := fun w' => Below wr.heap.size wr w') (by kernel_rfl) (below_drew wr) (fun hHeld => ?_)
          refine wpAnyH_take (i := 0) (oi := { dst := some 51, op := _, type := _, pos := _, after := _, guard := _ }) (v := ?_) rfl (by kernel_rfl) (by kernel_rfl) (by kernel_rfl) (fun _ _ _ h => h) (Or.inl ⟨by rfl, ?_⟩) (by assumption) ?_
          rotate_left
          · intro w hSw
            first | (go_simp; done) | (go_simp; with_reducible rfl)
          try simp only [Act.put, List.setIfInBounds_toArray, List.set_cons_zero, List.set_cons_succ]
          refine wpAnyH_take (i := 1) (oi := { dst := some 52, op := _, type := _, pos := _, after := _, guard := _ }) (v := ?_) rfl (by kernel_rfl) (by kernel_rfl) (by kernel_rfl) (fun _ _ _ h => h) (Or.inl ⟨by rfl, ?_⟩) (by assumption) ?_
          rotate_left
          · intro w hSw
            first | (go_simp; done) | (go_simp; with_reducible rfl)
          try simp only [Act.put, List.setIfInBounds_toArray, List.set_cons_zero, List.set_cons_succ]
          refine wpAnyH_take (i := 2) (oi := { dst := some 53, op := _, type := _, pos := _, after := _, guard := _ }) (v := ?_) rfl (by kernel_rfl) (by kernel_rfl) (by kernel_rfl) (fun _ _ _ h => h) (Or.inl ⟨by rfl, ?_⟩) (by assumption) ?_
          rotate_left
          · intro w hSw
            first | (go_simp; done) | (go_simp; with_reducible rfl)
          try simp only [Act.put, List.setIfInBounds_toArray, List.set_cons_zero, List.set_cons_succ]
          refine wpAnyH_take (i := 3) (oi := { dst := some 54, op := _, type := _, pos := _, after := _, guard := _ }) (v := ?_) rfl (by kernel_rfl) (by kernel_rfl) (by kernel_rfl) (fun _ _ _ h => h) (Or.inl ⟨by rfl, ?_⟩) (by assumption) ?_
          rotate_left
          · intro w hSw
            have g0 := cell_bl hSw (unhide HC0); have gx := cell_bl hSw (unhide HCX)
            first | (go_simp; done) | (go_simp; with_reducible rfl)
          try simp only [Act.put, List.setIfInBounds_toArray, List.set_cons_zero, List.set_cons_succ]
          refine wpAnyH_take (i := 4) (oi := { dst := some 55, op := _, type := _, pos := _, after := _, guard := _ }) (v := ?_) rfl (by kernel_rfl) (by kernel_rfl) (by kernel_rfl) (fun _ _ _ h => h) (Or.inl ⟨by rfl, ?_⟩) (by assumption) ?_
          rotate_left
          · intro w hSw
            have g0 := cell_bl hSw (unhide HC0); have gx := cell_bl hSw (unhide HCX)
            first | (go_simp; done) | (go_simp; with_reducible rfl)
          try simp only [Act.put, List.setIfInBounds_toArray, List.set_cons_zero, List.set_cons_succ]
          refine wpAnyH_take (i := 5) (oi := { dst := some 56, op := _, type := _, pos := _, after := _, guard := _ }) (v := ?_) rfl (by kernel_rfl) (by kernel_rfl) (by kernel_rfl) (fun _ _ _ h => h) (Or.inl ⟨by rfl, ?_⟩) (by assumption) ?_
          rotate_left
          · intro w hSw
            have g0 := cell_bl hSw (unhide HC0); have gx := cell_bl hSw (unhide HCX)
            first | (go_simp; done) | (go_simp; with_reducible rfl)
          try simp only [Act.put, List.setIfInBounds_toArray, List.set_cons_zero, List.set_cons_succ]
          refine wpAnyH_take (i := 6) (oi := { dst := some 57, op := _, type := _, pos := _, after := _, guard := _ }) (v := ?_) rfl (by kernel_rfl) (by kernel_rfl) (by kernel_rfl) (fun _ _ _ h => h) (Or.inl ⟨by rfl, ?_⟩) (by assumption) ?_
          rotate_left
          · intro w hSw
            have g0 := cell_bl hSw (unhide HC0); have gx := cell_bl hSw (unhide HCX)
            first | (go_simp; done) | (go_simp; with_reducible rfl)
          try simp only [Act.put, List.setIfInBounds_toArray, List.set_cons_zero, List.set_cons_succ]
          refine wpAnyH_take (i := 7) (oi := { dst := some 58, op := _, type := _, pos := _, after := _, guard := _ }) (v := ?_) rfl (by kernel_rfl) (by kernel_rfl) (by kernel_rfl) (fun _ _ _ h => h) (Or.inl ⟨by rfl, ?_⟩) (by assumption) ?_
          rotate_left
          · intro w hSw
            have g0 := cell_bl hSw (unhide HC0); have gx := cell_bl hSw (unhide HCX)
            first | (go_simp; done) | (go_simp; with_reducible rfl)
          try simp only [Act.put, List.setIfInBounds_toArray, List.set_cons_zero, List.set_cons_succ]
          refine wpAnyH_take (i := 8) (oi := { dst := some 59, op := _, type := _, pos := _, after := _, guard := _ }) (v := ?_) rfl (by kernel_rfl) (by kernel_rfl) (by kernel_rfl) (fun _ _ _ h => h) (Or.inl ⟨by rfl, ?_⟩) (by assumption) ?_
          rotate_left
          · intro w hSw
            first | (go_simp; done) | (go_simp; with_reducible rfl)
          try simp only [Act.put, List.setIfInBounds_toArray, List.set_cons_zero, List.set_cons_succ]
          refine wpAnyH_take (i := 9) (oi := { dst := some 60, op := _, type := _, pos := _, after := _, guard := _ }) (v := ?_) rfl (by kernel_rfl) (by kernel_rfl) (by kernel_rfl) (fun _ _ _ h => h) (Or.inl ⟨by rfl, ?_⟩) (by assumption) ?_
          rotate_left
          · intro w hSw
            first | (go_simp; done) | (go_simp; with_reducible rfl)
          try simp only [Act.put, List.setIfInBounds_toArray, List.set_cons_zero, List.set_cons_succ]
          refine wpAnyH_take (i := 10) (oi := { dst := some 61, op := _, type := _, pos := _, after := _, guard := _ }) (v := ?_) rfl (by kernel_rfl) (by kernel_rfl) (by kernel_rfl) (fun _ _ _ h => h) (Or.inl ⟨by rfl, ?_⟩) (by assumption) ?_
          rotate_left
          · intro w hSw
            first | (go_simp; done) | (go_simp; with_reducible rfl)
          try simp only [Act.put, List.setIfInBounds_toArray, List.set_cons_zero, List.set_cons_succ]
          refine wpAnyH_take (i := 11) (oi := { dst := some 62, op := _, type := _, pos := _, after := _, guard := _ }) (v := ?_) rfl (by kernel_rfl) (by kernel_rfl) (by kernel_rfl) (fun _ _ _ h => h) (Or.inl ⟨by rfl, ?_⟩) (by assumption) ?_
          rotate_left
          · intro w hSw
            first | (go_simp; done) | (go_simp; with_reducible rfl)
          try simp only [Act.put, List.setIfInBounds_toArray, List.set_cons_zero, List.set_cons_succ]
          refine wpAnyH_take (i := 12) (oi := { dst := some 63, op := _, type := _, pos := _, after := _, guard := _ }) (v := ?_) rfl (by kernel_rfl) (by kernel_rfl) (by kernel_rfl) (fun _ _ _ h => h) (Or.inl ⟨by rfl, ?_⟩) (by assumption) ?_
          rotate_left
          · intro w hSw
            first | (go_simp; done) | (go_simp; with_reducible rfl)
          try simp only [Act.put, List.setIfInBounds_toArray, List.set_cons_zero, List.set_cons_succ]
          refine wpAnyH_take (i := 13) (oi := { dst := some 64, op := _, type := _, pos := _, after := _, guard := _ }) (v := ?_) rfl (by kernel_rfl) (by kernel_rfl) (by kernel_rfl) (fun _ _ _ h => h) (Or.inl ⟨by rfl, ?_⟩) (by assumption) ?_
          rotate_left
          · intro w hSw
            first | (go_simp; done) | (go_simp; with_reducible rfl)
          try simp only [Act.put, List.setIfInBounds_toArray, List.set_cons_zero, List.set_cons_succ]
          refine wpAnyH_take (i := 14) (oi := { dst := some 65, op := _, type := _, pos := _, after := _, guard := _ }) (v := undef) rfl (by kernel_rfl) (by kernel_rfl) (by kernel_rfl) (fun _ _ _ h => h) (Or.inr ⟨by rfl, rfl⟩) (by assumption) ?_
          try simp only [Act.put, List.setIfInBounds_toArray, List.set_cons_zero, List.set_cons_succ]
          refine wpAnyH_take (i := 15) (oi := { dst := some 66, op := _, type := _, pos := _, after := _, guard := _ }) (v := undef) rfl (by kernel_rfl) (by kernel_rfl) (by kernel_rfl) (fun _ _ _ h => h) (Or.inr ⟨by rfl, rfl⟩) (by assumption) ?_
          try simp only [Act.put, List.setIfInBounds_toArray, List.set_cons_zero, List.set_cons_succ]
          refine wpAnyH_take (i := 16) (oi := { dst := some 67, op := _, type := _, pos := _, after := _, guard := _ }) (v := undef) rfl (by kernel_rfl) (by kernel_rfl) (by kernel_rfl) (fun _ _ _ h => h) (Or.inr ⟨by rfl, rfl⟩) (by assumption) ?_
          try simp only [Act.put, List.setIfInBounds_toArray, List.set_cons_zero, List.set_cons_succ]
          refine wpAnyH_take (i := 17) (oi := { dst := some 68, op := _, type := _, pos := _, after := _, guard := _ }) (v := undef) rfl (by kernel_rfl) (by kernel_rfl) (by kernel_rfl) (fun _ _ _ h => h) (Or.inr ⟨by rfl, rfl⟩) (by assumption) ?_
          try simp only [Act.put, List.setIfInBounds_toArray, List.set_cons_zero, List.set_cons_succ]
          refine wpAnyH_take (i := 18) (oi := { dst := some 69, op := _, type := _, pos := _, after := _, guard := _ }) (v := undef) rfl (by kernel_rfl) (by kernel_rfl) (by kernel_rfl) (fun _ _ _ h => h) (Or.inr ⟨by rfl, rfl⟩) (by assumption) ?_
          try simp only [Act.put, List.setIfInBounds_toArray, List.set_cons_zero, List.set_cons_succ]
          refine wpAnyH_take (i := 19) (oi := { dst := some 70, op := _, type := _, pos := _, after := _, guard := _ }) (v := undef) rfl (by kernel_rfl) (by kernel_rfl) (by kernel_rfl) (fun _ _ _ h => h) (Or.inr ⟨by rfl, rfl⟩) (by assumption) ?_
          try simp only [Act.put, List.setIfInBounds_toArray, List.set_cons_zero, List.set_cons_succ]
          refine wpAnyH_take (i := 20) (oi := { dst := some 71, op := _, type := _, pos := _, after := _, guard := _ }) (v := undef) rfl (by kernel_rfl) (by kernel_rfl) (by kernel_rfl) (fun _ _ _ h => h) (Or.inr ⟨by rfl, rfl⟩) (by assumption) ?_
          try simp only [Act.put, List.setIfInBounds_toArray, List.set_cons_zero, List.set_cons_succ]
          refine wpAnyH_take (i := 21) (oi := { dst := some 72, op := _, type := _, pos := _, after := _, guard := _ }) (v := undef) rfl (by kernel_rfl) (by kernel_rfl) (by kernel_rfl) (fun _ _ _ h => h) (Or.inr ⟨by rfl, rfl⟩) (by assumption) ?_
          try simp only [Act.put, List.setIfInBounds_toArray, List.set_cons_zero, List.set_cons_succ]
          refine wpAnyH_take (i := 22) (oi := { dst := some 73, op := _, type := _, pos := _, after := _, guard := _ }) (v := undef) rfl (by kernel_rfl) (by kernel_rfl) (by kernel_rfl) (fun _ _ _ h => h) (Or.inr ⟨by rfl, rfl⟩) (by assumption) ?_
          try simp only [Act.put, List.setIfInBounds_toArray, List.set_cons_zero, List.set_cons_succ]
          refine wpAnyH_take (i := 23) (oi := { dst := some 74, op := _, type := _, pos := _, after := _, guard := _ }) (v := undef) rfl (by kernel_rfl) (by kernel_rfl) (by kernel_rfl) (fun _ _ _ h => h) (Or.inr ⟨by rfl, rfl⟩) (by assumption) ?_
          try simp only [Act.put, List.setIfInBounds_toArray, List.set_cons_zero, List.set_cons_succ]
          refine wpAnyH_take (i := 24) (oi := { dst := some 75, op := _, type := _, pos := _, after := _, guard := _ }) (v := ?_) rfl (by kernel_rfl) (by kernel_rfl) (by kernel_rfl) (fun _ _ _ h => h) (Or.inl ⟨by rfl, ?_⟩) (by assumption) ?_
          rotate_left
          · intro w hSw
            first | (go_simp; done) | (go_simp; with_reducible rfl)
          try simp only [Act.put, List.setIfInBounds_toArray, List.set_cons_zero, List.set_cons_succ]
          refine wpAnyH_take (i := 25) (oi := { dst := some 76, op := _, type := _, pos := _, after := _, guard := _ }) (v := ?_) rfl (by kernel_rfl) (by kernel_rfl) (by kernel_rfl) (fun _ _ _ h => h) (Or.inl ⟨by rfl, ?_⟩) (by assumption) ?_
          rotate_left
          · intro w hSw
            first | (go_simp; done) | (go_simp; with_reducible rfl)
          try simp only [Act.put, List.setIfInBounds_toArray, List.set_cons_zero, List.set_cons_succ]
          have HD := below_drew wr
          generalize wr.drew = V0 at *
          refine wpAnyH_done (by kernel_rfl) ?_ _
          replace HB := hide (below_tr (unhide HB) HD)
          replace HR := hide ((unhide HR).bel HD)
          replace HY := hide ((unhide HY).bel HD)
          replace HBW := hide ((unhide HBW).bel HD)
          clear HD 
          go_wp2_with fail
          go_roundw
          case rel => exact ⟨1, by omega, by go_num, unhide HBW⟩
          case measure => simp [intOf]; omega
        obtain ⟨p, rfl⟩ : ∃ p, k = p + 1 := ⟨k - 1, by omega⟩
        obtain ⟨j0, hi1, hi2, -⟩ := unhide HAT p (by omega)
        have hcy2 := hcv p (by omega)
        rw [hi1] at hcy2
        have HCY := hide hcy2
        have hasc := unhide HAS p hltN
        rw [hi1, hj1] at hasc
        have hge : ¬ ((j : Int) ≤ (j0 : Int)) := by omega
        have hwp : IntKind.i64.wrap (p : Int) = (p : Int) := wrap_sub (by omega) (by omega)
        have hp0 : (0 : Int) ≤ (p : Int) := by omega
        have hpl : (p : Int) < (ys.length : Int) := by omega
        have hpg : (0 : Int) < ((p : Int) + 1) := by omega
        have hpp : (0 : Int) ≤ ((p : Int) + 1) := by omega
        clear hcy2 hasc hcv hi1
        go_wp2_with fail
        refine wp_region_held_drew (S := fun w' => Below wr.heap.size wr w') (by kernel_rfl) (below_drew wr) (fun hHeld => ?_)
        refine wpAnyH_take (i := 0) (oi := { dst := some 51, op := _, type := _, pos := _, after := _, guard := _ }) (v := ?_) rfl (by kernel_rfl) (by kernel_rfl) (by kernel_rfl) (fun _ _ _ h => h) (Or.inl ⟨by rfl, ?_⟩) (by assumption) ?_
        rotate_left
        · intro w hSw
          first | (go_simp; done) | (go_simp; with_reducible rfl)
        try simp only [Act.put, List.setIfInBounds_toArray, List.set_cons_zero, List.set_cons_succ]
        refine wpAnyH_take (i := 1) (oi := { dst := some 52, op := _, type := _, pos := _, after := _, guard := _ }) (v := ?_) rfl (by kernel_rfl) (by kernel_rfl) (by kernel_rfl) (fun _ _ _ h => h) (Or.inl ⟨by rfl, ?_⟩) (by assumption) ?_
        rotate_left
        · intro w hSw
          first | (go_simp; done) | (go_simp; with_reducible rfl)
        try simp only [Act.put, List.setIfInBounds_toArray, List.set_cons_zero, List.set_cons_succ]
        refine wpAnyH_take (i := 2) (oi := { dst := some 53, op := _, type := _, pos := _, after := _, guard := _ }) (v := ?_) rfl (by kernel_rfl) (by kernel_rfl) (by kernel_rfl) (fun _ _ _ h => h) (Or.inl ⟨by rfl, ?_⟩) (by assumption) ?_
        rotate_left
        · intro w hSw
          first | (go_simp; done) | (go_simp; with_reducible rfl)
        try simp only [Act.put, List.setIfInBounds_toArray, List.set_cons_zero, List.set_cons_succ]
        refine wpAnyH_take (i := 3) (oi := { dst := some 54, op := _, type := _, pos := _, after := _, guard := _ }) (v := ?_) rfl (by kernel_rfl) (by kernel_rfl) (by kernel_rfl) (fun _ _ _ h => h) (Or.inl ⟨by rfl, ?_⟩) (by assumption) ?_
        rotate_left
        · intro w hSw
          have g0 := cell_bl hSw (unhide HC0); have gx := cell_bl hSw (unhide HCX); have gy := cell_bl hSw (unhide HCY)
          first | (go_simp; done) | (go_simp; with_reducible rfl)
        try simp only [Act.put, List.setIfInBounds_toArray, List.set_cons_zero, List.set_cons_succ]
        refine wpAnyH_take (i := 4) (oi := { dst := some 55, op := _, type := _, pos := _, after := _, guard := _ }) (v := ?_) rfl (by kernel_rfl) (by kernel_rfl) (by kernel_rfl) (fun _ _ _ h => h) (Or.inl ⟨by rfl, ?_⟩) (by assumption) ?_
        rotate_left
        · intro w hSw
          have g0 := cell_bl hSw (unhide HC0); have gx := cell_bl hSw (unhide HCX); have gy := cell_bl hSw (unhide HCY)
          first | (go_simp; done) | (go_simp; with_reducible rfl)
        try simp only [Act.put, List.setIfInBounds_toArray, List.set_cons_zero, List.set_cons_succ]
        refine wpAnyH_take (i := 5) (oi := { dst := some 56, op := _, type := _, pos := _, after := _, guard := _ }) (v := ?_) rfl (by kernel_rfl) (by kernel_rfl) (by kernel_rfl) (fun _ _ _ h => h) (Or.inl ⟨by rfl, ?_⟩) (by assumption) ?_
        rotate_left
        · intro w hSw
          have g0 := cell_bl hSw (unhide HC0); have gx := cell_bl hSw (unhide HCX); have gy := cell_bl hSw (unhide HCY)
          first | (go_simp; done) | (go_simp; with_reducible rfl)
        try simp only [Act.put, List.setIfInBounds_toArray, List.set_cons_zero, List.set_cons_succ]
        refine wpAnyH_take (i := 6) (oi := { dst := some 57, op := _, type := _, pos := _, after := _, guard := _ }) (v := ?_) rfl (by kernel_rfl) (by kernel_rfl) (by kernel_rfl) (fun _ _ _ h => h) (Or.inl ⟨by rfl, ?_⟩) (by assumption) ?_
        rotate_left
        · intro w hSw
          have g0 := cell_bl hSw (unhide HC0); have gx := cell_bl hSw (unhide HCX); have gy := cell_bl hSw (unhide HCY)
          first | (go_simp; done) | (go_simp; with_reducible rfl)
        try simp only [Act.put, List.setIfInBounds_toArray, List.set_cons_zero, List.set_cons_succ]
        refine wpAnyH_take (i := 7) (oi := { dst := some 58, op := _, type := _, pos := _, after := _, guard := _ }) (v := ?_) rfl (by kernel_rfl) (by kernel_rfl) (by kernel_rfl) (fun _ _ _ h => h) (Or.inl ⟨by rfl, ?_⟩) (by assumption) ?_
        rotate_left
        · intro w hSw
          have g0 := cell_bl hSw (unhide HC0); have gx := cell_bl hSw (unhide HCX); have gy := cell_bl hSw (unhide HCY)
          first | (go_simp; done) | (go_simp; with_reducible rfl)
        try simp only [Act.put, List.setIfInBounds_toArray, List.set_cons_zero, List.set_cons_succ]
        refine wpAnyH_take (i := 8) (oi := { dst := some 59, op := _, type := _, pos := _, after := _, guard := _ }) (v := ?_) rfl (by kernel_rfl) (by kernel_rfl) (by kernel_rfl) (fun _ _ _ h => h) (Or.inl ⟨by rfl, ?_⟩) (by assumption) ?_
        rotate_left
        · intro w hSw
          first | (go_simp; done) | (go_simp; with_reducible rfl)
        try simp only [Act.put, List.setIfInBounds_toArray, List.set_cons_zero, List.set_cons_succ]
        refine wpAnyH_take (i := 9) (oi := { dst := some 60, op := _, type := _, pos := _, after := _, guard := _ }) (v := ?_) rfl (by kernel_rfl) (by kernel_rfl) (by kernel_rfl) (fun _ _ _ h => h) (Or.inl ⟨by rfl, ?_⟩) (by assumption) ?_
        rotate_left
        · intro w hSw
          first | (go_simp; done) | (go_simp; with_reducible rfl)
        try simp only [Act.put, List.setIfInBounds_toArray, List.set_cons_zero, List.set_cons_succ]
        refine wpAnyH_take (i := 10) (oi := { dst := some 61, op := _, type := _, pos := _, after := _, guard := _ }) (v := ?_) rfl (by kernel_rfl) (by kernel_rfl) (by kernel_rfl) (fun _ _ _ h => h) (Or.inl ⟨by rfl, ?_⟩) (by assumption) ?_
        rotate_left
        · intro w hSw
          first | (go_simp; done) | (go_simp; with_reducible rfl)
        try simp only [Act.put, List.setIfInBounds_toArray, List.set_cons_zero, List.set_cons_succ]
        refine wpAnyH_take (i := 11) (oi := { dst := some 62, op := _, type := _, pos := _, after := _, guard := _ }) (v := ?_) rfl (by kernel_rfl) (by kernel_rfl) (by kernel_rfl) (fun _ _ _ h => h) (Or.inl ⟨by rfl, ?_⟩) (by assumption) ?_
        rotate_left
        · intro w hSw
          first | (go_simp; done) | (go_simp; with_reducible rfl)
        try simp only [Act.put, List.setIfInBounds_toArray, List.set_cons_zero, List.set_cons_succ]
        refine wpAnyH_take (i := 12) (oi := { dst := some 63, op := _, type := _, pos := _, after := _, guard := _ }) (v := ?_) rfl (by kernel_rfl) (by kernel_rfl) (by kernel_rfl) (fun _ _ _ h => h) (Or.inl ⟨by rfl, ?_⟩) (by assumption) ?_
        rotate_left
        · intro w hSw
          first | (go_simp; done) | (go_simp; with_reducible rfl)
        try simp only [Act.put, List.setIfInBounds_toArray, List.set_cons_zero, List.set_cons_succ]
        refine wpAnyH_take (i := 13) (oi := { dst := some 64, op := _, type := _, pos := _, after := _, guard := _ }) (v := ?_) rfl (by kernel_rfl) (by kernel_rfl) (by kernel_rfl) (fun _ _ _ h => h) (Or.inl ⟨by rfl, ?_⟩) (by assumption) ?_
        rotate_left
        · intro w hSw
          first | (go_simp; done) | (go_simp; with_reducible rfl)
        try simp only [Act.put, List.setIfInBounds_toArray, List.set_cons_zero, List.set_cons_succ]
        refine wpAnyH_take (i := 14) (oi := { dst := some 65, op := _, type := _, pos := _, after := _, guard := _ }) (v := ?_) rfl (by kernel_rfl) (by kernel_rfl) (by kernel_rfl) (fun _ _ _ h => h) (Or.inl ⟨by rfl, ?_⟩) (by assumption) ?_
        rotate_left
        · intro w hSw
          first | (go_simp; done) | (go_simp; with_reducible rfl)
        try simp only [Act.put, List.setIfInBounds_toArray, List.set_cons_zero, List.set_cons_succ]
        refine wpAnyH_take (i := 15) (oi := { dst := some 66, op := _, type := _, pos := _, after := _, guard := _ }) (v := ?_) rfl (by kernel_rfl) (by kernel_rfl) (by kernel_rfl) (fun _ _ _ h => h) (Or.inl ⟨by rfl, ?_⟩) (by assumption) ?_
        rotate_left
        · intro w hSw
          first | (go_simp; done) | (go_simp; with_reducible rfl)
        try simp only [Act.put, List.setIfInBounds_toArray, List.set_cons_zero, List.set_cons_succ]
        refine wpAnyH_take (i := 16) (oi := { dst := some 67, op := _, type := _, pos := _, after := _, guard := _ }) (v := ?_) rfl (by kernel_rfl) (by kernel_rfl) (by kernel_rfl) (fun _ _ _ h => h) (Or.inl ⟨by rfl, ?_⟩) (by assumption) ?_
        rotate_left
        · intro w hSw
          first | (go_simp; done) | (go_simp; with_reducible rfl)
        try simp only [Act.put, List.setIfInBounds_toArray, List.set_cons_zero, List.set_cons_succ]
        refine wpAnyH_take (i := 17) (oi := { dst := some 68, op := _, type := _, pos := _, after := _, guard := _ }) (v := ?_) rfl (by kernel_rfl) (by kernel_rfl) (by kernel_rfl) (fun _ _ _ h => h) (Or.inl ⟨by rfl, ?_⟩) (by assumption) ?_
        rotate_left
        · intro w hSw
          have g0 := cell_bl hSw (unhide HC0); have gx := cell_bl hSw (unhide HCX); have gy := cell_bl hSw (unhide HCY)
          first | (go_simp; done) | (go_simp; with_reducible rfl)
        try simp only [Act.put, List.setIfInBounds_toArray, List.set_cons_zero, List.set_cons_succ]
        refine wpAnyH_take (i := 18) (oi := { dst := some 69, op := _, type := _, pos := _, after := _, guard := _ }) (v := ?_) rfl (by kernel_rfl) (by kernel_rfl) (by kernel_rfl) (fun _ _ _ h => h) (Or.inl ⟨by rfl, ?_⟩) (by assumption) ?_
        rotate_left
        · intro w hSw
          have g0 := cell_bl hSw (unhide HC0); have gx := cell_bl hSw (unhide HCX); have gy := cell_bl hSw (unhide HCY)
          first | (go_simp; done) | (go_simp; with_reducible rfl)
        try simp only [Act.put, List.setIfInBounds_toArray, List.set_cons_zero, List.set_cons_succ]
        refine wpAnyH_take (i := 19) (oi := { dst := some 70, op := _, type := _, pos := _, after := _, guard := _ }) (v := ?_) rfl (by kernel_rfl) (by kernel_rfl) (by kernel_rfl) (fun _ _ _ h => h) (Or.inl ⟨by rfl, ?_⟩) (by assumption) ?_
        rotate_left
        · intro w hSw
          first | (go_simp; done) | (go_simp; with_reducible rfl)
        try simp only [Act.put, List.setIfInBounds_toArray, List.set_cons_zero, List.set_cons_succ]
        refine wpAnyH_take (i := 20) (oi := { dst := some 71, op := _, type := _, pos := _, after := _, guard := _ }) (v := ?_) rfl (by kernel_rfl) (by kernel_rfl) (by kernel_rfl) (fun _ _ _ h => h) (Or.inl ⟨by rfl, ?_⟩) (by assumption) ?_
        rotate_left
        · intro w hSw
          first | (go_simp; done) | (go_simp; with_reducible rfl)
        try simp only [Act.put, List.setIfInBounds_toArray, List.set_cons_zero, List.set_cons_succ]
        refine wpAnyH_take (i := 21) (oi := { dst := some 72, op := _, type := _, pos := _, after := _, guard := _ }) (v := ?_) rfl (by kernel_rfl) (by kernel_rfl) (by kernel_rfl) (fun _ _ _ h => h) (Or.inl ⟨by rfl, ?_⟩) (by assumption) ?_
        rotate_left
        · intro w hSw
          have g0 := cell_bl hSw (unhide HC0); have gx := cell_bl hSw (unhide HCX); have gy := cell_bl hSw (unhide HCY)
          first | (go_simp; done) | (go_simp; with_reducible rfl)
        try simp only [Act.put, List.setIfInBounds_toArray, List.set_cons_zero, List.set_cons_succ]
        refine wpAnyH_take (i := 22) (oi := { dst := some 73, op := _, type := _, pos := _, after := _, guard := _ }) (v := ?_) rfl (by kernel_rfl) (by kernel_rfl) (by kernel_rfl) (fun _ _ _ h => h) (Or.inl ⟨by rfl, ?_⟩) (by assumption) ?_
        rotate_left
        · intro w hSw
          have g0 := cell_bl hSw (unhide HC0); have gx := cell_bl hSw (unhide HCX); have gy := cell_bl hSw (unhide HCY)
          first | (go_simp; done) | (go_simp; with_reducible rfl)
        try simp only [Act.put, List.setIfInBounds_toArray, List.set_cons_zero, List.set_cons_succ]
        refine wpAnyH_take (i := 23) (oi := { dst := some 74, op := _, type := _, pos := _, after := _, guard := _ }) (v := ?_) rfl (by kernel_rfl) (by kernel_rfl) (by kernel_rfl) (fun _ _ _ h => h) (Or.inl ⟨by rfl, ?_⟩) (by assumption) ?_
        rotate_left
        · intro w hSw
          first | (go_simp; done) | (go_simp; with_reducible rfl)
        try simp only [Act.put, List.setIfInBounds_toArray, List.set_cons_zero, List.set_cons_succ]
        refine wpAnyH_take (i := 24) (oi := { dst := some 75, op := _, type := _, pos := _, after := _, guard := _ }) (v := ?_) rfl (by kernel_rfl) (by kernel_rfl) (by kernel_rfl) (fun _ _ _ h => h) (Or.inl ⟨by rfl, ?_⟩) (by assumption) ?_
        rotate_left
        · intro w hSw
          first | (go_simp; done) | (go_simp; with_reducible rfl)
        try simp only [Act.put, List.setIfInBounds_toArray, List.set_cons_zero, List.set_cons_succ]
        refine wpAnyH_take (i := 25) (oi := { dst := some 76, op := _, type := _, pos := _, after := _, guard := _ }) (v := ?_) rfl (by kernel_rfl) (by kernel_rfl) (by kernel_rfl) (fun _ _ _ h => h) (Or.inl ⟨by rfl, ?_⟩) (by assumption) ?_
        rotate_left
        · intro w hSw
          first | (go_simp; done) | (go_simp; with_reducible rfl)
        try simp only [Act.put, List.setIfInBounds_toArray, List.set_cons_zero, List.set_cons_succ]
        have HD := below_drew wr
        generalize wr.drew = V0 at *
        refine wpAnyH_done (by kernel_rfl) ?_ _
        replace HB := hide (below_tr (unhide HB) HD)
        replace HR := hide ((unhide HR).bel HD)
        replace HY := hide ((unhide HY).bel HD)
        replace HBW := hide ((unhide HBW).bel HD)
        clear HD 
        go_wp2_with fail
        go_roundw
        case rel => exact ⟨p + 1 + 1, by omega, by go_num, unhide HBW⟩
        case measure => simp [intOf]; omega
      clear HBW hk HY HAT HAS
      go_wp2_with fail
      refine (c68 rs t ar nr cr _ (unhide HNR) (by omega) (unhide HR)).mono ?_
      rintro e u1 ⟨rfl, hb⟩
      rw [unhide HYS]
      replace HB := hide (below_tr (unhide HB) hb)
      replace HR := hide ((unhide HR).bel hb)
      clear hb
      rcases hok : Tm.ownOk rs with _ | _
      case false =>
        go_wp2_with fail
        refine (c40 rs ar nr cr _ (unhide HNR) (by omega) (unhide HR)).mono ?_
        rintro e u2 ⟨rfl, hb⟩
        rw [hok]
        replace HB := hide (below_tr (unhide HB) hb)
        replace HR := hide ((unhide HR).bel hb)
        clear hb
        go_wp2_with fail
        refine (c41 _).mono ?_
        rintro e u3 ⟨rfl, hww⟩
        have hww := hww.symm
        subst hww
        go_wp2_with fail
        go_ret
        exact ⟨rfl, unhide HB⟩
      have htot := unhide HS hok
      subst htot
      go_wp2_with fail
      refine (c40 rs ar nr cr _ (unhide HNR) (by omega) (unhide HR)).mono ?_
      rintro e u2 ⟨rfl, hb⟩
      rw [hok]
      replace HB := hide (below_tr (unhide HB) hb)
      replace HR := hide ((unhide HR).bel hb)
      clear hb
      go_wp2_with fail
      refine (c41 _).mono ?_
      rintro e u3 ⟨rfl, hww⟩
      have hww := hww.symm
      subst hww
      go_wp2_with fail
      go_ret
      exact ⟨rfl, unhide HB⟩
end Go.Proofs.Ytimaidcjccakeaa
