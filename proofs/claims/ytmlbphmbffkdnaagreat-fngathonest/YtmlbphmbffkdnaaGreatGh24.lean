/-
  Texts of the proof, what it needs of them: Lvs.
-/
import Derived.Test.YtmlbphmbffkdnaaGreatGh14
namespace Go.Proofs.YtmlbphmbffkdnaaGreat
open Go.RowKit
set_option linter.unusedVariables false
set_option maxRecDepth 100000

def lvTo (rs : List Tm.Rw) (k : Nat) : List Int := (List.range k).map (fun i : Nat => Tm.ownLeaf (i : Int) (rs.getD i Tm.noRow))
def leavesR (rs : List Tm.Rw) : List Int := lvTo rs rs.length
theorem lvTo_succ {rs : List Tm.Rw} {k : Nat} {r : Tm.Rw} (h : rs[k]? = some r) : lvTo rs (k + 1) = lvTo rs k ++ [Tm.ownLeaf (k : Int) r] := by
  unfold lvTo
  rw [List.range_succ, List.map_append]
  simp [List.getD, h]
theorem lvTo_len (rs : List Tm.Rw) (k : Nat) : (lvTo rs k).length = k := by unfold lvTo; simp
theorem leavesR_len (rs : List Tm.Rw) : (leavesR rs).length = rs.length := lvTo_len rs _
theorem ownLeaf_ok (t : Int) (r : Tm.Rw) : Tm.okB (Tm.ownLeaf t r) = true := by
  unfold Tm.ownLeaf
  split
  · exact Tm.leaf_ok _
  · decide
theorem ownLeaf_fits (t : Int) (r : Tm.Rw) : -9223372036854775808 ≤ Tm.ownLeaf t r ∧ Tm.ownLeaf t r ≤ 9223372036854775807 := ok_fits (ownLeaf_ok t r)
theorem leavesR_ok (rs : List Tm.Rw) : Tm.okAll (leavesR rs) = true := by
  refine Tm.okAll_yes (fun j hj => ?_)
  rw [leavesR_len] at hj
  have : (leavesR rs).getD j 0 = Tm.ownLeaf (j : Int) (rs.getD j Tm.noRow) := by
    unfold leavesR lvTo
    simp [List.getD, hj]
  rw [this]
  exact ownLeaf_ok _ _
theorem run_index_row {w : World} {rs : List Tm.Rw} {j : Nat} {a c : Int} {d : Bool} (hl : rs.length = 8) (hj : rs[j]? = some (a, c, d)) : (Instr.index 78 (rowsV rs) (.int .i64 (j : Int))).run Tryz.prog w = .ok (rowV a c d) w := by
  have h8 : j < 8 := by rw [← hl]; exact lt_of_get hj
  obtain ⟨f0, f1, f2⟩ := flat_get hj
  have hfl : (rs.flatMap rCells).length = 24 := by rw [flat_len rCells 3 rCells_len, hl]
  have hex : (rs.flatMap rCells).toArray.extract (j * 3) (j * 3 + 3) = #[.int .i64 a, .int .i64 c, .bool d] := by
    apply Array.ext_getElem?
    intro i
    rw [Array.getElem?_extract]
    have hm : min (j * 3 + 3) (rs.flatMap rCells).toArray.size = j * 3 + 3 := by simp [hfl]; omega
    rw [hm]
    rcases i with _ | _ | _ | i
    · simp [f0]
    · simp [f1]
    · simp [f2]
    · rw [if_neg (by omega)]; simp
  have hag : (isAgg 29).run Tryz.prog w = .ok true w := by kernel_rfl
  have hsz : (sizeOf 29).run Tryz.prog w = .ok 3 w := by kernel_rfl
  have h1 : (0 : Int) ≤ (j : Int) ∧ (j : Int) < ((8 : Nat) : Int) := by omega
  simp only [Instr.index, asIntOf, Sem.run_bind, Sem.run_pure, Result.andThen_ok, run_underlying Tryz.underlying78]
  rw [if_pos h1]
  simp only [part, Sem.run_bind, hag, hsz, Result.andThen_ok, Sem.run_pure, if_true, Int.toNat_natCast, hex]
theorem wpList_index_run {P : Program} {w : World} {ops : Array Oper} {rest : List Oper} {o : Oper} {a : Act} {Q : Exit → Act → World → Prop} (hgd : o.guard = none) (x y : Operand) (t : TypeId)
    (ho : o.op = .index t x y) (p u : Value) (hx : a.eval x = p) (hy : a.eval y = u) {v : Value} {w' : World} (hr : (Instr.index t p u).run P w = .ok v w') (h : wpList P ops Q rest (a.put o.dst v) w') : wpList P ops Q (o :: rest) a w := by
  refine wpList_plain hgd fun K hK => ?_
  unfold Oper.wp
  simp only [execOp, ho, hx, hy, Sem.run_bind, hr, Result.andThen_ok, Sem.run_pure]
  exact hK _ _ h

set_option maxHeartbeats 2000000 in
theorem c61 (rs : List Tm.Rw) (w : World) (hl : rs.length = 8) (hfit : ∀ r ∈ rs, FitR r) : Calls Tryz.prog 61 #[rowsV rs] w (Told w (leavesR rs)) := by
  obtain ⟨i0, hi, hz0, hz1, hz2⟩ := info_parts Tryz.info3
  have HO := hide ((own_nil w).below (below_a (.cells (rs.flatMap rCells).toArray 78)))
  have HB0 := hide (below_a (w := w) (.cells (rs.flatMap rCells).toArray 78))
  have HF := hide hfit
  have HL := hide hl
  clear hfit hl
  go_enter Tryz.func61, Tryz.ntmps61
  go_wp2_with (first | (refine wpList_load_run rfl _ 78 rfl _ rfl (arr_load0 _ (unhide HL)) ?_))
  go_loopw [3, 7] (fun v i wr => ∃ k : Nat, k ≤ 8 ∧ i = .int .i64 k ∧ Own wr w.heap.size v (lvTo rs k) ∧ Below w.heap.size w wr) (fun _ i _ => 8 - (intOf i).toNat)
  case atStart => exact ⟨0, Nat.zero_le _, rfl, unhide HO, unhide HB0⟩
  case round =>
    obtain ⟨k, hk, rfl, hown, hbel⟩ := hrel
    by_cases hlt : k < 8
    · obtain ⟨x0, x1, x2, hx⟩ := r_at (rs := rs) (k := k) (by rw [unhide HL]; exact hlt)
      have hlen := lvTo_len rs k
      have HT := hide (lvTo_succ hx)
      have HX : Hid (FitR (x0, x1, x2)) := unhide HF _ (List.mem_of_getElem? hx)
      have HXX := hide hx
      have HOW := hide hown
      have HBE := hide hbel
      clear hown hbel hx HO
      generalize lvTo rs k = zs at *
      have HN := hide (ownLeaf_fits (k : Int) (x0, x1, x2))
      go_wp2_with (first | (refine wpList_index_run rfl _ _ 78 rfl _ _ rfl rfl (run_index_row (unhide HL) (unhide HXX)) ?_) | fail)
      refine (c19 (k : Int) x0 x1 x2 _ (unhide HX)).mono ?_
      rintro e w2 ⟨rfl, hb2⟩
      have HB2 := hide (below_tr (below_al (unhide HBE)) hb2)
      have HO2 := hide (((unhide HOW).below (below_a _)).below hb2)
      clear hb2 HOW
      generalize hy : Tm.ownLeaf (k : Int) (x0, x1, x2) = y at *
      have HY := hide hy
      clear hy
      go_wp2_with (first | (at_builtin; refine wpList_append_own _ rfl _ _ 25 rfl w.heap.size 3 i0 (.int .i64 0) 1 8 Tryz.underlying25 hi hz0 hz1 hz2 rfl (by decide) _ _ _ rfl ((unhide HO2).2.alloc _) ⟨w2.heap.size, 0, none⟩ 1 1 [.int .i64 y] rfl rfl (cell_one_new _ _ _) (by simp [Value.oneCell']) (by unfold maxLen; omega) (by omega) (by have := (unhide HB2).size; simp; omega) ?_; intro v' w4 hown' hgrow _) | fail)
      have hfin := own_fin2 (unhide HB2) (unhide HO2) (unhide HN) hown' hgrow
      have H1 := hide hfin
      clear hfin hown' hgrow
      go_wp2_with fail
      go_roundw
      case rel => exact ⟨k + 1, by omega, by go_num, by rw [unhide HT]; exact (unhide H1).1, (unhide H1).2⟩
      case measure => simp [intOf]; omega
    · have hke : k = 8 := by omega
      subst hke
      have HRS : Hid (leavesR rs = lvTo rs 8) := by unfold Hid leavesR; rw [unhide HL]
      have H1 := hide hown
      have H2 := hide hbel
      clear hown hbel
      go_wp2_with fail
      go_ret
      exact ⟨_, rfl, by rw [unhide HRS]; exact unhide H1, unhide H2⟩

set_option maxHeartbeats 2000000 in
theorem c75 (rs : List Tm.Rw) (ao : Option Addr) (n cap : Nat) (w : World) (hn : rs.length = n) (hm : n ≤ 1048576) (hr : RRow w ao rs) : Calls Tryz.prog 75 #[.slice ao n cap] w (Told w (leavesR rs)) := by
  subst hn
  obtain ⟨hfit, hr⟩ := hr
  obtain ⟨i0, hi, hz0, hz1, hz2⟩ := info_parts Tryz.info3
  have HO := hide (own_empty w w.heap.size (Nat.le_refl _))
  have HR := hide hr
  have HF := hide hfit
  clear hr hfit
  go_enter Tryz.func75, Tryz.ntmps75
  go_wp2_with fail
  go_loopw [3, 4] (fun v i wr => ∃ k : Nat, k ≤ rs.length ∧ i = .int .i64 k ∧ Own wr w.heap.size v (lvTo rs k) ∧ Below w.heap.size w wr) (fun _ i _ => rs.length - (intOf i).toNat)
  case atStart => exact ⟨0, Nat.zero_le _, rfl, unhide HO, below_a _⟩
  case round =>
    obtain ⟨k, hk, rfl, hown, hbel⟩ := hrel
    by_cases hlt : k < rs.length
    · obtain ⟨b, off, rfl, hc⟩ := unhide HR (by intro e; subst e; simp at hlt)
      obtain ⟨x0, x1, x2, hx⟩ := r_at hlt
      obtain ⟨g0, g1, g2⟩ := r_cells hbel hc hx
      have hlen := lvTo_len rs k
      have HT := hide (lvTo_succ hx)
      have HX : Hid (FitR (x0, x1, x2)) := unhide HF _ (List.mem_of_getElem? hx)
      have HOW := hide hown
      have HBE := hide hbel
      clear hown hbel hc hx HO
      generalize lvTo rs k = zs at *
      have HN := hide (ownLeaf_fits (k : Int) (x0, x1, x2))
      go_wp2_with fail
      refine (c80 (k : Int) x0 x1 x2 _ (unhide HX)).mono ?_
      rintro e w2 ⟨rfl, hb2⟩
      have HB2 := hide (below_tr (unhide HBE) hb2)
      have HO2 := hide ((unhide HOW).below hb2)
      clear hb2 HOW
      generalize hy : Tm.ownLeaf (k : Int) (x0, x1, x2) = y at *
      have HY := hide hy
      clear hy
      go_wp2_with (first | (at_builtin; refine wpList_append_own _ rfl _ _ 25 rfl w.heap.size 3 i0 (.int .i64 0) 1 8 Tryz.underlying25 hi hz0 hz1 hz2 rfl (by decide) _ _ _ rfl ((unhide HO2).2.alloc _) ⟨w2.heap.size, 0, none⟩ 1 1 [.int .i64 y] rfl rfl (cell_one_new _ _ _) (by simp [Value.oneCell']) (by unfold maxLen; omega) (by omega) (by have := (unhide HB2).size; simp; omega) ?_; intro v' w4 hown' hgrow _) | fail)
      have hfin := own_fin2 (unhide HB2) (unhide HO2) (unhide HN) hown' hgrow
      have H1 := hide hfin
      clear hfin hown' hgrow
      go_wp2_with fail
      go_roundw
      case rel => exact ⟨k + 1, by omega, by go_num, by rw [unhide HT]; exact (unhide H1).1, (unhide H1).2⟩
      case measure => simp [intOf]; omega
    · have hke : k = rs.length := by omega
      subst hke
      have HRS : Hid (leavesR rs = lvTo rs rs.length) := rfl
      have H1 := hide hown
      have H2 := hide hbel
      clear hown hbel
      go_wp2_with fail
      go_ret
      exact ⟨_, rfl, by rw [unhide HRS]; exact unhide H1, unhide H2⟩
end Go.Proofs.YtmlbphmbffkdnaaGreat
