/-
  The walks of chapter 5 over all rows: whether an entry fits.
-/
import Derived.Test.YtjdnengmllamcaaMayf
import Derived.Deep.RegionHeld3
namespace Go.Proofs.Ytjdnengmllamcaa
open Go.RowKit
set_option linter.unusedVariables false
set_option maxRecDepth 100000

theorem Arr.cells {w : World} {g j : Nat} {rs : List Tm.Rw} (h : Arr w g rs) {a c : Int} {d : Bool} (hj : rs[j]? = some (a, c, d)) :
    w.cell? ⟨g, j * 3, none⟩ = some (.int .i64 a) ∧ w.cell? ⟨g, j * 3 + 1, none⟩ = some (.int .i64 c) ∧ w.cell? ⟨g, j * 3 + 2, none⟩ = some (.bool d) := by
  have key : ∀ (i : Nat) (v : Value), (rCells (a, c, d))[i]? = some v → w.cell? ⟨g, j * 3 + i, none⟩ = some v := by
    intro i v hv
    have h1 := flat_at rCells 3 rCells_len rs j i (a, c, d) v hj hv
    rw [cell_of_row w g (j * 3 + i) _ _ _ h]
    simpa using h1
  exact ⟨key 0 _ rfl, key 1 _ rfl, key 2 _ rfl⟩
theorem at_get {rs : List Tm.Rw} {j : Nat} {r : Tm.Rw} (h : rs[j]? = some r) : Tm.at' rs (j : Int) = r := by
  show rs.getD (j : Int).toNat Tm.noRow = r
  simp [List.getD, h]
theorem fits_of {rs : List Tm.Rw} {e : Tm.Ent} {j : Nat} {r : Tm.Rw} (ho : Tm.ownOk rs = true) (he : Tm.entOk e = true) (hj : e.2.1 = (j : Int)) (hr : rs[j]? = some r) : Tm.fits rs e = Tm.may r e := by
  unfold Tm.fits; rw [ho, he, hj, at_get hr]; rfl
theorem fits_no {rs : List Tm.Rw} {e : Tm.Ent} (he : Tm.entOk e = false) : Tm.fits rs e = false := by unfold Tm.fits; rw [he]; simp
set_option maxHeartbeats 2000000 in
theorem c115 (rs : List Tm.Rw) (k t u p : Int) (w : World) (ho : Tm.ownOk rs = true) : Calls Try.prog 115 #[rowsV rs, entV k t u p] w fun e w' => e = .returned (.bool (Tm.fits rs (k, t, u, p))) ∧ Below w.heap.size w w' := by
  have hl := (Tm.ownOk_iff.1 ho).1
  have hA := (arr_new w rs).alloc (.cells #[.int .i64 k, .int .i64 t, .int .i64 u, .int .i64 p] 24)
  have hE := box_new (w.alloc (.cells (rs.flatMap rCells).toArray 108)) [.int .i64 k, .int .i64 t, .int .i64 u, .int .i64 p] 24 (by simp [Value.oneCell'])
  rw [show (w.alloc (.cells (rs.flatMap rCells).toArray 108)).heap.size = w.heap.size + 1 by simp] at hE
  have hb := below_al (o := .cells #[.int .i64 k, .int .i64 t, .int .i64 u, .int .i64 p] 24) (below_a (w := w) (.cells (rs.flatMap rCells).toArray 108))
  have HA := hide hA
  have HE := hide hE
  have HB := hide hb
  have HO := hide ho
  have HL := hide hl
  clear hA hE hb hl ho
  go_enter Try.func115, Try.ntmps115
  go_wp2_with fail
  generalize (w.alloc (.cells (rs.flatMap rCells).toArray 108)).alloc (.cells #[.int .i64 k, .int .i64 t, .int .i64 u, .int .i64 p] 24) = W at *
  rcases hk : Tm.entOk (k, t, u, p) with _ | _
  · have HF := hide (fits_no (rs := rs) hk)
    have HK := hide hk
    clear hk
    refine wp_region_held_drew (S := fun w' => Below W.heap.size W w') (by kernel_rfl) (below_drew W) (fun hHeld => ?_)
    refine wpAnyH_take (i := 0) (oi := { dst := some 5, op := _, type := _, pos := _, after := _, guard := _ }) (v := ?_) rfl (by kernel_rfl) (by kernel_rfl) (by kernel_rfl) (fun _ _ _ h => h) (Or.inl ⟨by rfl, ?_⟩) (by assumption) ?_
    rotate_left
    · intro w hSw
      have hT := (unhide HE).below hSw; have y0 := hT.cell 0 rfl; have y1 := hT.cell 1 rfl; have y2 := hT.cell 2 rfl; have y3 := hT.cell 3 rfl
      first | (go_simp; done) | (go_simp; with_reducible rfl)
    try simp only [Act.put, List.setIfInBounds_toArray, List.set_cons_zero, List.set_cons_succ]
    have HB0 := below_drew W
    generalize W.drew = V0 at *
    refine wpAnyH_ready (rs := [1]) (by kernel_rfl) (by simp) ?_
    refine AllReadyH.cons (o := { dst := some 6, op := _, type := _, pos := _, after := _, guard := _ }) rfl (fun K hK => ?_) AllReadyH.nil
    go_simp
    go_at_call 150
    refine (c150 k t u p _).mono ?_
    rintro e v1 ⟨rfl, hbn⟩
    rw [unhide HK]
    have HB1 := below_then HB0 hbn
    clear hbn HB0
    try go_wp2_with fail
    refine hK.out _ _ HB1 (fun hHeld => ?_)
    clear hK K hHeld
    try simp only [Act.put, List.setIfInBounds_toArray, List.set_cons_zero, List.set_cons_succ]
    refine wpAnyH_take (i := 2) (oi := { dst := some 7, op := _, type := _, pos := _, after := _, guard := _ }) (v := ?_) rfl (by kernel_rfl) (by kernel_rfl) (by kernel_rfl) (fun _ _ _ h => h) (Or.inl ⟨by rfl, ?_⟩) (by assumption) ?_
    rotate_left
    · intro w hSw
      first | (go_simp; done) | (go_simp; with_reducible rfl)
    try simp only [Act.put, List.setIfInBounds_toArray, List.set_cons_zero, List.set_cons_succ]
    refine wpAnyH_take (i := 3) (oi := { dst := some 8, op := _, type := _, pos := _, after := _, guard := _ }) (v := undef) rfl (by kernel_rfl) (by kernel_rfl) (by kernel_rfl) (fun _ _ _ h => h) (Or.inr ⟨by rfl, rfl⟩) (by assumption) ?_
    try simp only [Act.put, List.setIfInBounds_toArray, List.set_cons_zero, List.set_cons_succ]
    refine wpAnyH_take (i := 4) (oi := { dst := some 9, op := _, type := _, pos := _, after := _, guard := _ }) (v := undef) rfl (by kernel_rfl) (by kernel_rfl) (by kernel_rfl) (fun _ _ _ h => h) (Or.inr ⟨by rfl, rfl⟩) (by assumption) ?_
    try simp only [Act.put, List.setIfInBounds_toArray, List.set_cons_zero, List.set_cons_succ]
    refine wpAnyH_take (i := 5) (oi := { dst := some 10, op := _, type := _, pos := _, after := _, guard := _ }) (v := undef) rfl (by kernel_rfl) (by kernel_rfl) (by kernel_rfl) (fun _ _ _ h => h) (Or.inr ⟨by rfl, rfl⟩) (by assumption) ?_
    try simp only [Act.put, List.setIfInBounds_toArray, List.set_cons_zero, List.set_cons_succ]
    refine wpAnyH_take (i := 6) (oi := { dst := some 11, op := _, type := _, pos := _, after := _, guard := _ }) (v := undef) rfl (by kernel_rfl) (by kernel_rfl) (by kernel_rfl) (fun _ _ _ h => h) (Or.inr ⟨by rfl, rfl⟩) (by assumption) ?_
    try simp only [Act.put, List.setIfInBounds_toArray, List.set_cons_zero, List.set_cons_succ]
    refine wpAnyH_take (i := 7) (oi := { dst := some 12, op := _, type := _, pos := _, after := _, guard := _ }) (v := undef) rfl (by kernel_rfl) (by kernel_rfl) (by kernel_rfl) (fun _ _ _ h => h) (Or.inr ⟨by rfl, rfl⟩) (by assumption) ?_
    try simp only [Act.put, List.setIfInBounds_toArray, List.set_cons_zero, List.set_cons_succ]
    refine wpAnyH_take (i := 8) (oi := { dst := some 13, op := _, type := _, pos := _, after := _, guard := _ }) (v := undef) rfl (by kernel_rfl) (by kernel_rfl) (by kernel_rfl) (fun _ _ _ h => h) (Or.inr ⟨by rfl, rfl⟩) (by assumption) ?_
    try simp only [Act.put, List.setIfInBounds_toArray, List.set_cons_zero, List.set_cons_succ]
    refine wpAnyH_take (i := 9) (oi := { dst := some 14, op := _, type := _, pos := _, after := _, guard := _ }) (v := ?_) rfl (by kernel_rfl) (by kernel_rfl) (by kernel_rfl) (fun _ _ _ h => h) (Or.inl ⟨by rfl, ?_⟩) (by assumption) ?_
    rotate_left
    · intro w hSw
      first | (go_simp; done) | (go_simp; with_reducible rfl)
    try simp only [Act.put, List.setIfInBounds_toArray, List.set_cons_zero, List.set_cons_succ]
    refine wpAnyH_take (i := 10) (oi := { dst := some 4, op := _, type := _, pos := _, after := _, guard := _ }) (v := ?_) rfl (by kernel_rfl) (by kernel_rfl) (by kernel_rfl) (fun _ _ _ h => h) (Or.inl ⟨by rfl, ?_⟩) (by assumption) ?_
    rotate_left
    · intro w hSw
      first | (go_simp; done) | (go_simp; with_reducible rfl)
    try simp only [Act.put, List.setIfInBounds_toArray, List.set_cons_zero, List.set_cons_succ]
    refine wpAnyH_done (by kernel_rfl) ?_ _
    have HB2 := hide (below_tr (unhide HB) HB1)
    clear HB1
    go_wp2_with fail
    go_ret
    exact ⟨ret_bool (unhide HF).symm, unhide HB2⟩
  · have hke := Tm.entOk_iff.1 hk
    dsimp only at hke
    obtain ⟨j, rfl⟩ : ∃ j : Nat, t = (j : Int) := ⟨t.toNat, by omega⟩
    have hj8 : j < 8 := by omega
    have hjl : j < rs.length := by rw [unhide HL]; exact hj8
    obtain ⟨a, c, d, hj⟩ := r_at hjl
    have HJ := hide hj
    have HF := hide (fits_of (unhide HO) hk (j := j) rfl hj)
    have HK := hide hk
    have hj1 : (j : Int) < 8 := by omega
    have hj0 : (0 : Int) ≤ (j : Int) := by omega
    clear hk hke hj hjl
    refine wp_region_held_drew (S := fun w' => Below W.heap.size W w') (by kernel_rfl) (below_drew W) (fun hHeld => ?_)
    refine wpAnyH_take (i := 0) (oi := { dst := some 5, op := _, type := _, pos := _, after := _, guard := _ }) (v := ?_) rfl (by kernel_rfl) (by kernel_rfl) (by kernel_rfl) (fun _ _ _ h => h) (Or.inl ⟨by rfl, ?_⟩) (by assumption) ?_
    rotate_left
    · intro w hSw
      have hT := (unhide HE).below hSw; have y0 := hT.cell 0 rfl; have y1 := hT.cell 1 rfl; have y2 := hT.cell 2 rfl; have y3 := hT.cell 3 rfl
      first | (go_simp; done) | (go_simp; with_reducible rfl)
    try simp only [Act.put, List.setIfInBounds_toArray, List.set_cons_zero, List.set_cons_succ]
    have HB0 := below_drew W
    generalize W.drew = V0 at *
    refine wpAnyH_ready (rs := [1]) (by kernel_rfl) (by simp) ?_
    refine AllReadyH.cons (o := { dst := some 6, op := _, type := _, pos := _, after := _, guard := _ }) rfl (fun K hK => ?_) AllReadyH.nil
    go_simp
    go_at_call 150
    refine (c150 k (j : Int) u p _).mono ?_
    rintro e v1 ⟨rfl, hbn⟩
    rw [unhide HK]
    have HB1 := below_then HB0 hbn
    clear hbn HB0
    try go_wp2_with fail
    refine hK.out _ _ HB1 (fun hHeld => ?_)
    clear hK K hHeld
    try simp only [Act.put, List.setIfInBounds_toArray, List.set_cons_zero, List.set_cons_succ]
    refine wpAnyH_take (i := 2) (oi := { dst := some 7, op := _, type := _, pos := _, after := _, guard := _ }) (v := ?_) rfl (by kernel_rfl) (by kernel_rfl) (by kernel_rfl) (fun _ _ _ h => h) (Or.inl ⟨by rfl, ?_⟩) (by assumption) ?_
    rotate_left
    · intro w hSw
      first | (go_simp; done) | (go_simp; with_reducible rfl)
    try simp only [Act.put, List.setIfInBounds_toArray, List.set_cons_zero, List.set_cons_succ]
    refine wpAnyH_take (i := 3) (oi := { dst := some 8, op := _, type := _, pos := _, after := _, guard := _ }) (v := ?_) rfl (by kernel_rfl) (by kernel_rfl) (by kernel_rfl) (fun _ _ _ h => h) (Or.inl ⟨by rfl, ?_⟩) (by assumption) ?_
    rotate_left
    · intro w hSw
      first | (go_simp; done) | (go_simp; with_reducible rfl)
    try simp only [Act.put, List.setIfInBounds_toArray, List.set_cons_zero, List.set_cons_succ]
    refine wpAnyH_take (i := 4) (oi := { dst := some 9, op := _, type := _, pos := _, after := _, guard := _ }) (v := ?_) rfl (by kernel_rfl) (by kernel_rfl) (by kernel_rfl) (fun _ _ _ h => h) (Or.inl ⟨by rfl, ?_⟩) (by assumption) ?_
    rotate_left
    · intro w hSw
      have hT := (unhide HE).below hSw; have y0 := hT.cell 0 rfl; have y1 := hT.cell 1 rfl; have y2 := hT.cell 2 rfl; have y3 := hT.cell 3 rfl
      first | (go_simp; done) | (go_simp; with_reducible rfl)
    try simp only [Act.put, List.setIfInBounds_toArray, List.set_cons_zero, List.set_cons_succ]
    refine wpAnyH_take (i := 5) (oi := { dst := some 10, op := _, type := _, pos := _, after := _, guard := _ }) (v := ?_) rfl (by kernel_rfl) (by kernel_rfl) (by kernel_rfl) (fun _ _ _ h => h) (Or.inl ⟨by rfl, ?_⟩) (by assumption) ?_
    rotate_left
    · intro w hSw
      first | (go_simp; done) | (go_simp; with_reducible rfl)
    try simp only [Act.put, List.setIfInBounds_toArray, List.set_cons_zero, List.set_cons_succ]
    refine wpAnyH_take (i := 6) (oi := { dst := some 11, op := _, type := _, pos := _, after := _, guard := _ }) (v := ?_) rfl (by kernel_rfl) (by kernel_rfl) (by kernel_rfl) (fun _ _ _ h => h) (Or.inl ⟨by rfl, ?_⟩) (by assumption) ?_
    rotate_left
    · intro w hSw
      have hT := (unhide HE).below hSw; have y0 := hT.cell 0 rfl; have y1 := hT.cell 1 rfl; have y2 := hT.cell 2 rfl; have y3 := hT.cell 3 rfl; have hAr := (unhide HA).bel hSw; obtain ⟨x0, x1, x2⟩ := hAr.cells (unhide HJ)
      first | (go_simp; done) | (go_simp; with_reducible rfl)
    try simp only [Act.put, List.setIfInBounds_toArray, List.set_cons_zero, List.set_cons_succ]
    refine wpAnyH_take (i := 7) (oi := { dst := some 12, op := _, type := _, pos := _, after := _, guard := _ }) (v := ?_) rfl (by kernel_rfl) (by kernel_rfl) (by kernel_rfl) (fun _ _ _ h => h) (Or.inl ⟨by rfl, ?_⟩) (by assumption) ?_
    rotate_left
    · intro w hSw
      have hT := (unhide HE).below hSw; have y0 := hT.cell 0 rfl; have y1 := hT.cell 1 rfl; have y2 := hT.cell 2 rfl; have y3 := hT.cell 3 rfl
      first | (go_simp; done) | (go_simp; with_reducible rfl)
    try simp only [Act.put, List.setIfInBounds_toArray, List.set_cons_zero, List.set_cons_succ]
    refine wpAnyH_ready (rs := [8]) (by kernel_rfl) (by simp) ?_
    refine AllReadyH.cons (o := { dst := some 13, op := _, type := _, pos := _, after := _, guard := _ }) rfl (fun K hK => ?_) AllReadyH.nil
    go_simp
    go_at_call 151
    refine (c151 a c d k (j : Int) u p _ (unhide HK)).mono ?_
    rintro e v2 ⟨rfl, hbn⟩
    have HB2 := below_then HB1 hbn
    clear hbn HB1
    try go_wp2_with fail
    refine hK.out _ _ HB2 (fun hHeld => ?_)
    clear hK K hHeld
    try simp only [Act.put, List.setIfInBounds_toArray, List.set_cons_zero, List.set_cons_succ]
    refine wpAnyH_take (i := 9) (oi := { dst := some 14, op := _, type := _, pos := _, after := _, guard := _ }) (v := ?_) rfl (by kernel_rfl) (by kernel_rfl) (by kernel_rfl) (fun _ _ _ h => h) (Or.inl ⟨by rfl, ?_⟩) (by assumption) ?_
    rotate_left
    · intro w hSw
      first | (go_simp; done) | (go_simp; with_reducible rfl)
    try simp only [Act.put, List.setIfInBounds_toArray, List.set_cons_zero, List.set_cons_succ]
    refine wpAnyH_take (i := 10) (oi := { dst := some 4, op := _, type := _, pos := _, after := _, guard := _ }) (v := ?_) rfl (by kernel_rfl) (by kernel_rfl) (by kernel_rfl) (fun _ _ _ h => h) (Or.inl ⟨by rfl, ?_⟩) (by assumption) ?_
    rotate_left
    · intro w hSw
      first | (go_simp; done) | (go_simp; with_reducible rfl)
    try simp only [Act.put, List.setIfInBounds_toArray, List.set_cons_zero, List.set_cons_succ]
    refine wpAnyH_done (by kernel_rfl) ?_ _
    have HB3 := hide (below_tr (unhide HB) HB2)
    clear HB2
    go_wp2_with fail
    go_ret
    exact ⟨ret_bool (unhide HF).symm, unhide HB3⟩
end Go.Proofs.Ytjdnengmllamcaa
