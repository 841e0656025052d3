/-
  The walks of OwnFits and OwnPut in the program.
-/
import Derived.Test.YtjdnengmllamcaaPutr
import Derived.Test.YtjdnengmllamcaaMonb
namespace Go.Proofs.Ytjdnengmllamcaa
open Go.RowKit
set_option linter.unusedVariables false
set_option maxRecDepth 100000

theorem rows_all (rs : List Tm.Rw) : (rs.flatMap rCells).toArray.all (·.oneCell') = true := Array.all_eq_true_iff_forall_mem.2 (fun v hv => flat_oneCell rs v (by simpa using hv))
theorem arr_store0 (w : World) {rs : List Tm.Rw} (hl : rs.length = 8) : (Instr.storeAt 108 (.pointer (some ⟨w.heap.size, 0, none⟩)) (rowsV rs)).run Try.prog (w.alloc (.cells #[.int .i64 0, .int .i64 0, .bool false, .int .i64 0, .int .i64 0, .bool false, .int .i64 0, .int .i64 0, .bool false, .int .i64 0, .int .i64 0, .bool false, .int .i64 0, .int .i64 0, .bool false, .int .i64 0, .int .i64 0, .bool false, .int .i64 0, .int .i64 0, .bool false, .int .i64 0, .int .i64 0, .bool false] 108)) = .ok () (w.alloc (.cells (rs.flatMap rCells).toArray 108)) :=
  run_storeAt_new w _ _ _ (by rw [rows_size hl]; exact Try.infoA) (by rw [rows_size hl]; rfl) (rows_all rs)
theorem arr_load0 (w : World) {rs : List Tm.Rw} (hl : rs.length = 8) : (Instr.loadAt 108 (.pointer (some ⟨w.heap.size, 0, none⟩))).run Try.prog (w.alloc (.cells (rs.flatMap rCells).toArray 108)) = .ok (rowsV rs) (w.alloc (.cells (rs.flatMap rCells).toArray 108)) :=
  (arr_new w rs).load hl
theorem rrow_none {w : World} {rs : List Tm.Rw} (h : RRow w none rs) : rs = [] := by
  by_cases e : rs = []
  · exact e
  · obtain ⟨b, off, h2, -⟩ := h.2 e; cases h2
/-- rows and a yes or no, told together -/
def RTold2 (w : World) (rs : List Tm.Rw) (b : Bool) (e : Ending) (w' : World) : Prop := ∃ v, e = .returned (.tuple #[v, .bool b]) ∧ ROwn w' w.heap.size v rs ∧ Below w.heap.size w w'
def Tm.ownPut (rs : List Tm.Rw) (e : Tm.Ent) : List Tm.Rw := if Tm.fits rs e = true then Tm.put rs e else rs
theorem ownPut_of {rs : List Tm.Rw} {e : Tm.Ent} (h : Tm.fits rs e = true) : Tm.ownPut rs e = Tm.put rs e := by unfold Tm.ownPut; rw [if_pos h]
theorem ownPut_no {rs : List Tm.Rw} {e : Tm.Ent} (h : Tm.fits rs e = false) : Tm.ownPut rs e = rs := by unfold Tm.ownPut; rw [if_neg (by simp [h])]
theorem ownPut_len (rs : List Tm.Rw) (e : Tm.Ent) : (Tm.ownPut rs e).length = rs.length := by unfold Tm.ownPut; split; exact Tm.put_len rs e; rfl
theorem fits_own {rs : List Tm.Rw} {e : Tm.Ent} (h : Tm.ownOk rs = false) : Tm.fits rs e = false := by unfold Tm.fits; rw [h]; rfl
theorem ownOk_fit {rs : List Tm.Rw} (h : Tm.ownOk rs = true) : ∀ r ∈ rs, FitR r := by
  intro r hr
  rcases Tm.rowOk_iff.1 ((Tm.ownOk_iff.1 h).2 r hr) with e | e
  · subst e; exact ⟨by simp [Tm.noRow], by simp [Tm.noRow]⟩
  · exact ⟨⟨by omega, by omega⟩, by omega, by omega⟩

set_option maxHeartbeats 1000000 in
theorem c117 (rs : List Tm.Rw) (ao : Option Addr) (n cap : Nat) (w : World) (hn : rs.length = n) (hm : n ≤ 1048576) (hz : ao = none → cap = 0) (hr : RRow w ao rs) :
    Calls Try.prog 117 #[.slice ao n cap] w (RTold w rs) := by
  subst hn
  obtain ⟨i0, hi, hz0, hz1, hz2⟩ := info_parts Try.infoR
  have HF := hide hr.1
  have HO := hide (owns_nil w w.heap.size 3 47 (Nat.le_refl _))
  cases ao with
  | none =>
    have h0 : rs = [] := rrow_none hr
    subst h0
    have hc0 := hz rfl
    subst hc0
    clear hr hz
    go_enter Try.func117, Try.ntmps117
    go_wp2_with (first | (at_builtin; refine wpList_append_own_none rfl _ _ 41 rfl w.heap.size 47 i0 3 Try.underlying41 hi _ 0 [] rfl (unhide HO) rfl ?_) | fail)
    go_wp2_with fail
    go_ret
    exact ⟨_, rfl, ⟨unhide HF, _, unhide HO⟩, Below.refl _ _⟩
  | some a =>
    have HC := hide (rrow_src hr)
    have hfl := flat_len rCells 3 rCells_len rs
    clear hr hz
    go_enter Try.func117, Try.ntmps117
    go_wp2_with (first | (at_builtin; refine wpList_append_own _ rfl _ _ 41 rfl w.heap.size 47 i0 _ 3 24 Try.underlying41 hi hz0 hz1 hz2 rfl (by decide) _ _ _ rfl (unhide HO) a rs.length cap (rs.flatMap rCells) rfl hfl (unhide HC) (flat_oneCell rs) (by simp [maxLen]; omega) (by simp; omega) (Nat.le_refl _) ?_; intro v' w2 hown' hgrow _) | fail)
    have hgrow : w.grownBy w2 none := hgrow
    have HW : Hid (w2.ownsRow w.heap.size 47 3 v' rs.length (rs.flatMap rCells)) := by unfold Hid; simpa using hown'
    have HG := hide ((Below.refl w.heap.size w).grown hgrow (Nat.le_refl _) (fun q hq => by cases hq))
    clear hown' hgrow
    go_wp2_with fail
    go_ret
    exact ⟨_, rfl, ⟨unhide HF, _, unhide HW⟩, unhide HG⟩

set_option maxHeartbeats 1000000 in
theorem c119 (rs : List Tm.Rw) (w : World) (hl : rs.length = 8) (hf : ∀ r ∈ rs, FitR r) : Calls Try.prog 119 #[rowsV rs] w (RTold w rs) := by
  have HF := hide hf
  have HO : Hid ((w.alloc (.cells (rs.flatMap rCells).toArray 108)).ownsRow w.heap.size 108 3 (.slice (some ⟨w.heap.size, 0, none⟩) 8 8) rs.length (rs.flatMap rCells)) := by
    rw [hl]
    exact World.ownsRow_lit w (rs.flatMap rCells).toArray 8 (Nat.le_refl _) (by unfold maxLen; omega) (by simp [flat_len rCells 3 rCells_len, hl])
  clear hf hl
  go_enter Try.func119, Try.ntmps119
  go_wp2_with fail
  go_ret
  exact ⟨_, rfl, ⟨unhide HF, _, unhide HO⟩, below_a _⟩
theorem owns_mono {w : World} {b b' s n : Nat} {t : TypeId} {v : Value} {xs : List Value} (h : w.ownsRow b' t s v n xs) (hb : b ≤ b') : w.ownsRow b t s v n xs := by
  refine ⟨h.1, ?_⟩
  rcases h.2 with h | ⟨g, cap, cur, h1, h2, h3⟩
  · exact Or.inl h
  · exact Or.inr ⟨g, cap, cur, h1, Nat.le_trans hb h2, h3⟩
theorem ROwn.mono {w : World} {b b' : Nat} {v : Value} {rs : List Tm.Rw} (h : ROwn w b' v rs) (hb : b ≤ b') : ROwn w b v rs := by
  obtain ⟨f, t, h0⟩ := h
  exact ⟨f, t, owns_mono h0 hb⟩
theorem ret_lb2 {v : Value} {a b : Bool} (h : a = b) : Ending.returned (.tuple #[v, .bool a]) = .returned (.tuple #[v, .bool b]) := by rw [h]

set_option maxHeartbeats 2000000 in
theorem c42 (rs : List Tm.Rw) (k t u p : Int) (ao : Option Addr) (n cap : Nat) (w : World) (hn : rs.length = n) (hm : n ≤ 1048576) (hr : RRow w ao rs) :
    Calls Try.prog 42 #[.slice ao n cap, entV k t u p] w fun e w' => e = .returned (.bool (Tm.fits rs (k, t, u, p))) ∧ Below w.heap.size w w' := by
  have HR := hide hr
  have HN := hide hn
  have hE := box_new w [.int .i64 k, .int .i64 t, .int .i64 u, .int .i64 p] 24 (by simp [Value.oneCell'])
  have HE := hide hE
  clear hr hn hE
  go_enter Try.func42, Try.ntmps42
  go_wp2_with fail
  refine (c114 rs ao n cap _ HN.out hm ((unhide HR).bel (below_a _))).mono ?_
  rintro e w1 ⟨rfl, hb⟩
  have HB1 := hide (below_tr (below_a (w := w) _) hb)
  have HL := hide (rowsIf_len rs)
  have hE2 := ((unhide HE).below hb).alloc (.cells ((rowsIf rs).flatMap rCells).toArray 108)
  have y0 := hE2.cell 0 rfl
  have y1 := hE2.cell 1 rfl
  have y2 := hE2.cell 2 rfl
  have y3 := hE2.cell 3 rfl
  have HRb := hide ((unhide HR).bel (below_al (o := .cells ((rowsIf rs).flatMap rCells).toArray 108) (unhide HB1)))
  have HB2 := hide (below_al (o := .cells ((rowsIf rs).flatMap rCells).toArray 108) (unhide HB1))
  clear hb hE2 HE HR
  rcases hk : Tm.ownOk rs with _ | _
  · have HF := hide (fits_own (e := (k, t, u, p)) hk)
    clear hk
    generalize rowsIf rs = rs' at *
    go_wp2_with (first | (refine wpList_store_run rfl _ _ 108 rfl _ _ rfl rfl (arr_store0 _ (unhide HL)) ?_))
    go_ret
    exact ⟨ret_bool (unhide HF).symm, unhide HB2⟩
  · have HE := hide (rowsIf_of hk)
    have HK := hide hk
    clear hk
    generalize rowsIf rs = rs' at *
    go_wp2_with (first | (refine wpList_store_run rfl _ _ 108 rfl _ _ rfl rfl (arr_store0 _ (unhide HL)) ?_) | (refine wpList_load_runG (by rfl) _ 108 rfl _ rfl (arr_load0 _ (unhide HL)) ?_))
    rw [unhide HE]
    refine (c115 rs k t u p _ (unhide HK)).mono ?_
    rintro e w2 ⟨rfl, hb2⟩
    rw [unhide HE] at HB2
    have HB3 := hide (below_tr (unhide HB2) hb2)
    clear hb2
    generalize hf : Tm.fits rs (k, t, u, p) = bb at *
    have HF := hide hf
    clear hf
    go_wp2_with fail
    go_ret
    exact ⟨ret_bool (unhide HF).symm, unhide HB3⟩

set_option maxHeartbeats 2000000 in
theorem c48 (rs : List Tm.Rw) (k t u p : Int) (ao : Option Addr) (n cap : Nat) (w : World) (hn : rs.length = n) (hm : n ≤ 1048576) (hz : ao = none → cap = 0) (hr : RRow w ao rs) :
    Calls Try.prog 48 #[.slice ao n cap, entV k t u p] w (RTold2 w (Tm.ownPut rs (k, t, u, p)) (Tm.fits rs (k, t, u, p))) := by
  have HZ := hide hz
  clear hz
  have HR := hide hr
  have HN := hide hn
  have hE := box_new w [.int .i64 k, .int .i64 t, .int .i64 u, .int .i64 p] 24 (by simp [Value.oneCell'])
  have HE := hide hE
  clear hr hn hE
  go_enter Try.func48, Try.ntmps48
  go_wp2_with fail
  refine (c114 rs ao n cap _ HN.out hm ((unhide HR).bel (below_a _))).mono ?_
  rintro e w1 ⟨rfl, hb⟩
  have HB1 := hide (below_tr (below_a (w := w) _) hb)
  have HL := hide (rowsIf_len rs)
  have hE2 := ((unhide HE).below hb).alloc (.cells ((rowsIf rs).flatMap rCells).toArray 108)
  have y0 := hE2.cell 0 rfl
  have y1 := hE2.cell 1 rfl
  have y2 := hE2.cell 2 rfl
  have y3 := hE2.cell 3 rfl
  have HRb := hide ((unhide HR).bel (below_al (o := .cells ((rowsIf rs).flatMap rCells).toArray 108) (unhide HB1)))
  have HB2 := hide (below_al (o := .cells ((rowsIf rs).flatMap rCells).toArray 108) (unhide HB1))
  clear hb hE2 HE HR
  rcases hk : Tm.ownOk rs with _ | _
  · have HF := hide (fits_own (e := (k, t, u, p)) hk)
    have HP := hide (ownPut_no (unhide HF))
    clear hk
    generalize rowsIf rs = rs' at *
    go_wp2_with (first | (refine wpList_store_run rfl _ _ 108 rfl _ _ rfl rfl (arr_store0 _ (unhide HL)) ?_))
    refine (c117 rs ao n cap _ HN.out hm (unhide HZ) (unhide HRb)).mono ?_
    rintro e w2 ⟨v, rfl, ho2, hb2⟩
    have HO2 := hide (ho2.mono (unhide HB2).size)
    have HB3 := hide (below_tr (unhide HB2) hb2)
    clear ho2 hb2 y0 y1 y2 y3
    go_wp2_with fail
    go_ret2
    exact ⟨_, ret_lb2 (unhide HF).symm, by rw [unhide HP]; exact unhide HO2, unhide HB3⟩
  · have HE := hide (rowsIf_of hk)
    have HK := hide hk
    clear hk
    generalize rowsIf rs = rs' at *
    go_wp2_with (first | (refine wpList_store_run rfl _ _ 108 rfl _ _ rfl rfl (arr_store0 _ (unhide HL)) ?_) | (refine wpList_load_runG (by rfl) _ 108 rfl _ rfl (arr_load0 _ (unhide HL)) ?_))
    have HE' := unhide HE
    subst HE'
    refine (c115 _ k t u p _ (unhide HK)).mono ?_
    rintro e w2 ⟨rfl, hb2⟩
    have HB3 := hide (below_tr (unhide HB2) hb2)
    have hA2 := (arr_new w1 rs').bel hb2
    have HA2 := hide hA2
    have HR3 := hide ((unhide HRb).bel hb2)
    have y0 := cell_bl hb2 y0
    have y1 := cell_bl hb2 y1
    have y2 := cell_bl hb2 y2
    have y3 := cell_bl hb2 y3
    clear hb2 hA2
    rcases hf : Tm.fits rs' (k, t, u, p) with _ | _
    · have HP := hide (ownPut_no hf)
      have HF := hide hf
      clear hf
      go_wp2_with fail
      refine (c117 rs' ao n cap _ HN.out hm (unhide HZ) (unhide HR3)).mono ?_
      rintro e w3 ⟨v, rfl, ho3, hb3⟩
      have HO3 := hide (ho3.mono (unhide HB3).size)
      have HB4 := hide (below_tr (unhide HB3) hb3)
      clear ho3 hb3 y0 y1 y2 y3
      go_wp2_with fail
      go_ret2
      exact ⟨_, ret_lb2 (unhide HF).symm, by rw [unhide HP]; exact unhide HO3, unhide HB4⟩
    · have HP := hide (ownPut_of hf)
      have hep := (Tm.fits_iff.1 hf).2.1
      have hok := Tm.put_ok hf
      have HEP := hide hep
      have HOK := hide hok
      have HF := hide hf
      clear hf hep hok
      go_wp2_with (first | (refine wpList_load_run rfl _ 108 rfl _ rfl ((unhide HA2).load (unhide HL)) ?_))
      refine (c118 rs' k t u p _ (unhide HL) (unhide HEP)).mono ?_
      rintro e w3 ⟨rfl, hb3⟩
      have HB4 := hide (below_tr (unhide HB3) hb3)
      clear hb3 y0 y1 y2 y3
      go_wp2_with fail
      refine (c119 (Tm.put rs' (k, t, u, p)) _ (by rw [Tm.put_len]; exact unhide HL) (ownOk_fit (unhide HOK))).mono ?_
      rintro e w4 ⟨v, rfl, ho4, hb4⟩
      have HO4 := hide (ho4.mono (unhide HB4).size)
      have HB5 := hide (below_tr (unhide HB4) hb4)
      clear ho4 hb4
      go_wp2_with fail
      go_ret2
      exact ⟨_, ret_lb2 (unhide HF).symm, by rw [unhide HP]; exact unhide HO4, unhide HB5⟩
end Go.Proofs.Ytjdnengmllamcaa
