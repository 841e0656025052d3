/-
  The walk of how all rows stand behind an entry.
-/
import Derived.Test.YtjdnengmllamcaaBehd
import Derived.Deep.RegionHeld3
namespace Go.Proofs.Ytjdnengmllamcaa
open Go.RowKit
set_option linter.unusedVariables false
set_option maxRecDepth 100000

theorem Arr.frozen {w : World} {g : Nat} {rs : List Tm.Rw} (h : Arr w g rs) (i : Nat) : w.frozen? ⟨g, i, none⟩ = false := by
  unfold Arr at h
  simp [World.frozen?, h]
theorem grown_cell (w : World) (g i : Nat) (v : Value) : w.grownBy (w.setCell ⟨g, i, none⟩ v) (some g) := by
  refine ⟨rfl, rfl, rfl, by simp, fun k hk hne => ?_⟩
  have hgk : g ≠ k := fun e => hne (by rw [e])
  show (w.heap.modify g _)[k]? = _
  rw [Array.getElem?_modify, if_neg hgk]
theorem Arr.kpt {w w' : World} {g : Nat} {rs : List Tm.Rw} {row : Option Nat} (h : Arr w g rs) (hg : w.grownBy w' row) (hne : some g ≠ row) : Arr w' g rs := (hg.block g h.lt hne).trans h
theorem Arr.put3 {w : World} {g j : Nat} {rs : List Tm.Rw} (h : Arr w g rs) (hj : j < rs.length) (a c : Int) (d : Bool) :
    Arr (((w.setCell ⟨g, j * 3, none⟩ (.int .i64 a)).setCell ⟨g, j * 3 + 1, none⟩ (.int .i64 c)).setCell ⟨g, j * 3 + 2, none⟩ (.bool d)) g (rs.set j (a, c, d)) := by
  have e := flat_set rCells 3 rCells_len rs j (a, c, d) hj
  unfold Arr at h ⊢
  rw [← e]
  generalize hL : rs.flatMap rCells = L at *
  have h1 : (w.setCell ⟨g, j * 3, none⟩ (.int .i64 a)).heap[g]? = some (.cells (L.set (j * 3) (.int .i64 a)).toArray 108 (0, 0)) := by
    rw [setCell_eq_setRow w g (j * 3) _ _ _ _ h, setRow_heap _ _ _ _ _ _ h]; simp
  have h2 : ((w.setCell ⟨g, j * 3, none⟩ (.int .i64 a)).setCell ⟨g, j * 3 + 1, none⟩ (.int .i64 c)).heap[g]? = some (.cells ((L.set (j * 3) (.int .i64 a)).set (j * 3 + 1) (.int .i64 c)).toArray 108 (0, 0)) := by
    rw [setCell_eq_setRow _ g (j * 3 + 1) _ _ _ _ h1, setRow_heap _ _ _ _ _ _ h1]; simp
  rw [setCell_eq_setRow _ g (j * 3 + 2) _ _ _ _ h2, setRow_heap _ _ _ _ _ _ h2]
  simp [setAll, rCells]
set_option maxHeartbeats 2000000 in
theorem c118 (rs : List Tm.Rw) (k t u p : Int) (w : World) (hl : rs.length = 8) (hk : Tm.entOk (k, t, u, p) = true) : Calls Try.prog 118 #[rowsV rs, entV k t u p] w fun e w' => e = .returned (rowsV (Tm.put rs (k, t, u, p))) ∧ Below w.heap.size w w' := by
  have hA := ((arr_new w rs).alloc (.cells #[.int .i64 k, .int .i64 t, .int .i64 u, .int .i64 p] 24)).alloc (.cells (Tm.none8.flatMap rCells).toArray 108)
  have hE := (box_new (w.alloc (.cells (rs.flatMap rCells).toArray 108)) [.int .i64 k, .int .i64 t, .int .i64 u, .int .i64 p] 24 (by simp [Value.oneCell'])).alloc (.cells (Tm.none8.flatMap rCells).toArray 108)
  rw [show (w.alloc (.cells (rs.flatMap rCells).toArray 108)).heap.size = w.heap.size + 1 by simp] at hE
  have hR := arr_new ((w.alloc (.cells (rs.flatMap rCells).toArray 108)).alloc (.cells #[.int .i64 k, .int .i64 t, .int .i64 u, .int .i64 p] 24)) Tm.none8
  rw [show ((w.alloc (.cells (rs.flatMap rCells).toArray 108)).alloc (.cells #[.int .i64 k, .int .i64 t, .int .i64 u, .int .i64 p] 24)).heap.size = w.heap.size + 1 + 1 by simp] at hR
  have hb := below_al (o := .cells (Tm.none8.flatMap rCells).toArray 108) (below_al (o := .cells #[.int .i64 k, .int .i64 t, .int .i64 u, .int .i64 p] 24) (below_a (w := w) (.cells (rs.flatMap rCells).toArray 108)))
  have hke := Tm.entOk_iff.1 hk
  dsimp only at hke
  obtain ⟨j, rfl⟩ : ∃ j : Nat, t = (j : Int) := ⟨t.toNat, by omega⟩
  have hj8 : j < 8 := by omega
  have hjl : j < rs.length := by rw [hl]; exact hj8
  obtain ⟨a, c, d, hj⟩ := r_at hjl
  have hput : Tm.put rs (k, (j : Int), u, p) = rs.set j (Tm.turned (a, c, d) (k, (j : Int), u, p)) := by
    show rs.set (j : Int).toNat (Tm.turned (Tm.at' rs (j : Int)) _) = _
    rw [at_get hj, Int.toNat_natCast]
  obtain ⟨a', c', d', hT⟩ : ∃ a' c' d', Tm.turned (a, c, d) (k, (j : Int), u, p) = (a', c', d') := ⟨_, _, _, rfl⟩
  rw [hT] at hput
  have hj1 : (j : Int) < 8 := by omega
  have hj0 : (0 : Int) ≤ (j : Int) := by omega
  have HA := hide hA
  have HE := hide hE
  have HR := hide hR
  have HB := hide hb
  have HL := hide hl
  have HJ := hide hj
  have HK := hide hk
  have HP := hide hput
  have HT := hide hT
  have HJL := hide hjl
  clear hA hE hb hl hR hj hk hput hT hke hjl
  go_enter Try.func118, Try.ntmps118
  go_wp2_with fail
  have hzz : (#[Value.int IntKind.i64 0, Value.int IntKind.i64 0, Value.bool false, Value.int IntKind.i64 0, Value.int IntKind.i64 0, Value.bool false, Value.int IntKind.i64 0, Value.int IntKind.i64 0, Value.bool false, Value.int IntKind.i64 0, Value.int IntKind.i64 0, Value.bool false, Value.int IntKind.i64 0, Value.int IntKind.i64 0, Value.bool false, Value.int IntKind.i64 0, Value.int IntKind.i64 0, Value.bool false, Value.int IntKind.i64 0, Value.int IntKind.i64 0, Value.bool false, Value.int IntKind.i64 0, Value.int IntKind.i64 0, Value.bool false] : Array Value) = (Tm.none8.flatMap rCells).toArray := rfl
  rw [hzz]
  clear hzz
  generalize ((w.alloc (.cells (rs.flatMap rCells).toArray 108)).alloc (.cells #[.int .i64 k, .int .i64 (j : Int), .int .i64 u, .int .i64 p] 24)).alloc (.cells (Tm.none8.flatMap rCells).toArray 108) = W at *
  refine wp_region_held_drew (S := fun w' => Below w.heap.size w w' ∧ Box w' (w.heap.size + 1) [.int .i64 k, .int .i64 (j : Int), .int .i64 u, .int .i64 p]) (by kernel_rfl) ⟨below_tr (unhide HB) (below_drew W), (unhide HE).drew⟩ (fun hHeld => ?_)
  refine wpAnyH_take (i := 0) (oi := { dst := some 5, op := _, type := _, pos := _, after := _, guard := _ }) (v := ?_) rfl (by kernel_rfl) (by kernel_rfl) (by kernel_rfl) (fun _ _ _ h => h) (Or.inl ⟨by rfl, ?_⟩) (by assumption) ?_
  rotate_left
  · intro w hSw
    first | (go_simp; done) | (go_simp; with_reducible rfl)
  try simp only [Act.put, List.setIfInBounds_toArray, List.set_cons_zero, List.set_cons_succ]
  refine wpAnyH_take (i := 1) (oi := { dst := some 6, op := _, type := _, pos := _, after := _, guard := _ }) (v := ?_) rfl (by kernel_rfl) (by kernel_rfl) (by kernel_rfl) (fun _ _ _ h => h) (Or.inl ⟨by rfl, ?_⟩) (by assumption) ?_
  rotate_left
  · intro w hSw
    have hT := hSw.2; have y0 := hT.cell 0 rfl; have y1 := hT.cell 1 rfl; have y2 := hT.cell 2 rfl; have y3 := hT.cell 3 rfl
    first | (go_simp; done) | (go_simp; with_reducible rfl)
  try simp only [Act.put, List.setIfInBounds_toArray, List.set_cons_zero, List.set_cons_succ]
  refine wpAnyH_take (i := 2) (oi := { dst := some 7, op := _, type := _, pos := _, after := _, guard := _ }) (v := ?_) rfl (by kernel_rfl) (by kernel_rfl) (by kernel_rfl) (fun _ _ _ h => h) (Or.inl ⟨by rfl, ?_⟩) (by assumption) ?_
  rotate_left
  · intro w hSw
    first | (go_simp; done) | (go_simp; with_reducible rfl)
  try simp only [Act.put, List.setIfInBounds_toArray, List.set_cons_zero, List.set_cons_succ]
  refine wpAnyH_take (i := 3) (oi := { dst := some 8, op := _, type := _, pos := _, after := _, guard := _ }) (v := ?_) rfl (by kernel_rfl) (by kernel_rfl) (by kernel_rfl) (fun _ _ _ h => h) (Or.inl ⟨by rfl, ?_⟩) (by assumption) ?_
  rotate_left
  · intro w hSw
    have hT := hSw.2; have y0 := hT.cell 0 rfl; have y1 := hT.cell 1 rfl; have y2 := hT.cell 2 rfl; have y3 := hT.cell 3 rfl
    first | (go_simp; done) | (go_simp; with_reducible rfl)
  try simp only [Act.put, List.setIfInBounds_toArray, List.set_cons_zero, List.set_cons_succ]
  refine wpAnyH_take (i := 4) (oi := { dst := some 9, op := _, type := _, pos := _, after := _, guard := _ }) (v := ?_) rfl (by kernel_rfl) (by kernel_rfl) (by kernel_rfl) (fun _ _ _ h => h) (Or.inl ⟨by rfl, ?_⟩) (by assumption) ?_
  rotate_left
  · intro w hSw
    first | (go_simp; done) | (go_simp; with_reducible rfl)
  try simp only [Act.put, List.setIfInBounds_toArray, List.set_cons_zero, List.set_cons_succ]
  refine wpAnyH_take (i := 6) (oi := { dst := some 11, op := _, type := _, pos := _, after := _, guard := _ }) (v := ?_) rfl (by kernel_rfl) (by kernel_rfl) (by kernel_rfl) (fun _ _ _ h => h) (Or.inl ⟨by rfl, ?_⟩) (by assumption) ?_
  rotate_left
  · intro w hSw
    have hT := hSw.2; have y0 := hT.cell 0 rfl; have y1 := hT.cell 1 rfl; have y2 := hT.cell 2 rfl; have y3 := hT.cell 3 rfl
    first | (go_simp; done) | (go_simp; with_reducible rfl)
  try simp only [Act.put, List.setIfInBounds_toArray, List.set_cons_zero, List.set_cons_succ]
  have hA0 := (unhide HA).bel (below_drew W)
  have hR0 := (unhide HR).bel (below_drew W)
  have hE0 := (unhide HE).drew
  have HB0 := below_tr (unhide HB) (below_drew W)
  generalize W.drew = V0 at *
  obtain ⟨x0, x1, x2⟩ := hA0.cells (unhide HJ)
  refine wpAnyH_ready (rs := [5]) (by kernel_rfl) (by simp) ?_
  refine AllReadyH.cons (o := { dst := some 10, op := _, type := _, pos := _, after := _, guard := _ }) rfl (fun K hK => ?_) AllReadyH.nil
  go_simp
  try go_wp2_with fail
  refine hK.out _ _ ⟨HB0, hE0⟩ (fun hHeld => ?_)
  clear hK K hHeld
  try simp only [Act.put, List.setIfInBounds_toArray, List.set_cons_zero, List.set_cons_succ]
  refine wpAnyH_ready (rs := [7]) (by kernel_rfl) (by simp) ?_
  refine AllReadyH.cons (o := { dst := some 12, op := _, type := _, pos := _, after := _, guard := _ }) rfl (fun K hK => ?_) AllReadyH.nil
  go_simp
  go_at_call 152
  refine (c152 a c d k (j : Int) u p _ (unhide HK)).mono ?_
  rintro e v1 ⟨rfl, hbn⟩
  rw [unhide HT, show rowOf (a', c', d') = rowV a' c' d' by rfl]
  have hA1 := hA0.bel hbn
  have hR1 := hR0.bel hbn
  have hE1 := hE0.below hbn
  have HB1 := below_tr HB0 hbn
  clear hbn HB0 hA0 hR0 hE0 x0 x1 x2
  try go_wp2_with fail
  refine hK.out _ _ ⟨HB1, hE1⟩ (fun hHeld => ?_)
  clear hK K hHeld
  try simp only [Act.put, List.setIfInBounds_toArray, List.set_cons_zero, List.set_cons_succ]
  have hS1 : (fun w' => Below w.heap.size w w' ∧ Box w' (w.heap.size + 1) [.int .i64 k, .int .i64 (j : Int), .int .i64 u, .int .i64 p]) v1 := ⟨HB1, hE1⟩
  refine wpAnyH_take (i := 8) (oi := { dst := some 13, op := _, type := _, pos := _, after := _, guard := _ }) (v := ?_) rfl (by kernel_rfl) (by kernel_rfl) (by kernel_rfl) (fun _ _ _ h => h) (Or.inl ⟨by rfl, ?_⟩) (by assumption) ?_
  rotate_left
  · intro w hSw
    first | (go_simp; done) | (go_simp; with_reducible rfl)
  try simp only [Act.put, List.setIfInBounds_toArray, List.set_cons_zero, List.set_cons_succ]
  obtain ⟨x0, x1, x2⟩ := hA1.cells (unhide HJ)
  have z0 := hA1.frozen (j * 3)
  have z1 := hA1.frozen (j * 3 + 1)
  have z2 := hA1.frozen (j * 3 + 2)
  refine wpAnyH_ready (rs := [9]) (by kernel_rfl) (by simp) ?_
  refine AllReadyH.cons (o := { dst := none, op := _, type := _, pos := _, after := _, guard := _ }) rfl (fun K hK => ?_) AllReadyH.nil
  go_simp
  have hA2 := hA1.put3 (unhide HJL) a' c' d'
  have hB2 := (((HB1.setCell (p := ⟨w.heap.size, j * 3, none⟩) (Nat.le_refl _) (.int .i64 a')).setCell (p := ⟨w.heap.size, j * 3 + 1, none⟩) (Nat.le_refl _) (.int .i64 c')).setCell (p := ⟨w.heap.size, j * 3 + 2, none⟩) (Nat.le_refl _) (.bool d'))
  have hg2 := grown_tr' (grown_tr' (grown_cell v1 w.heap.size (j * 3) (.int .i64 a')) (grown_cell _ w.heap.size (j * 3 + 1) (.int .i64 c'))) (grown_cell _ w.heap.size (j * 3 + 2) (.bool d'))
  have hE2 := hE1.kpt hg2 (fun e => by simp only [Option.some.injEq] at e; omega)
  have hR2 := hR1.kpt hg2 (fun e => by simp only [Option.some.injEq] at e; omega)
  try go_wp2_with fail
  refine hK.out _ _ ⟨hB2, hE2⟩ (fun hHeld => ?_)
  clear hK K hHeld
  try simp only [Act.put, List.setIfInBounds_toArray, List.set_cons_zero, List.set_cons_succ]
  rw [← unhide HP] at hA2
  have HA2 := hide hA2
  have HB2 := hide hB2
  have HR2 := hide hR2
  clear hA2 hB2 hR2 hE2 hg2 hA1 hR1 hE1 HB1 x0 x1 x2 z0 z1 z2
  generalize ((v1.setCell ⟨w.heap.size, j * 3, none⟩ (.int .i64 a')).setCell ⟨w.heap.size, j * 3 + 1, none⟩ (.int .i64 c')).setCell ⟨w.heap.size, j * 3 + 2, none⟩ (.bool d') = v2 at *
  have HL2 : Hid ((Tm.put rs (k, (j : Int), u, p)).length = 8) := by unfold Hid; rw [Tm.put_len]; exact unhide HL
  generalize hrs2 : Tm.put rs (k, (j : Int), u, p) = rs2 at *
  have HRS := hide hrs2
  clear hrs2
  refine wpAnyH_done (by kernel_rfl) ?_ _
  go_wp2_with (first | (refine wpList_load_run rfl _ 108 rfl _ rfl ((unhide HA2).load (unhide HL2)) ?_) | (refine wpList_store_run rfl _ _ 108 rfl _ _ rfl rfl ((unhide HR2).store rfl (unhide HL2)) ?_))
  have hld := ((unhide HR2).set rs2).loadVar (unhide HL2)
  have HF := hide (below_row (unhide HB2) (show w.heap.size ≤ w.heap.size + 1 + 1 by omega) (rs2.flatMap rCells).toArray)
  generalize v2.setRow (w.heap.size + 1 + 1) (rs2.flatMap rCells).toArray = w3 at *
  go_wp2_with fail
  exact bodyPost_ret (v := rowsV rs2) (results_c Try.results118 rfl hld) rfl ⟨by rw [unhide HRS], unhide HF⟩
end Go.Proofs.Ytjdnengmllamcaa
