/-
  Texts of the proof, what it needs of them: Ownf.
-/
import Derived.Test.YtmlbphmbffkdnaaGreatGh12
import Derived.Test.YtmlbphmbffkdnaaGreatGh13
namespace Go.Proofs.YtmlbphmbffkdnaaGreat
open Go.RowKit
set_option linter.unusedVariables false
set_option maxRecDepth 100000

theorem rows_all (rs : List Tm.Rw) : (rs.flatMap rCells).toArray.all (·.oneCell') = true := Array.all_eq_true_iff_forall_mem.2 (fun v hv => flat_oneCell rs v (by simpa using hv))
theorem arr_store0 (w : World) {rs : List Tm.Rw} (hl : rs.length = 8) : (Instr.storeAt 78 (.pointer (some ⟨w.heap.size, 0, none⟩)) (rowsV rs)).run Tryz.prog (w.alloc (.cells #[.int .i64 0, .int .i64 0, .bool false, .int .i64 0, .int .i64 0, .bool false, .int .i64 0, .int .i64 0, .bool false, .int .i64 0, .int .i64 0, .bool false, .int .i64 0, .int .i64 0, .bool false, .int .i64 0, .int .i64 0, .bool false, .int .i64 0, .int .i64 0, .bool false, .int .i64 0, .int .i64 0, .bool false] 78)) = .ok () (w.alloc (.cells (rs.flatMap rCells).toArray 78)) :=
  run_storeAt_new w _ _ _ (by rw [rows_size hl]; exact Tryz.infoA) (by rw [rows_size hl]; rfl) (rows_all rs)
theorem arr_load0 (w : World) {rs : List Tm.Rw} (hl : rs.length = 8) : (Instr.loadAt 78 (.pointer (some ⟨w.heap.size, 0, none⟩))).run Tryz.prog (w.alloc (.cells (rs.flatMap rCells).toArray 78)) = .ok (rowsV rs) (w.alloc (.cells (rs.flatMap rCells).toArray 78)) :=
  (arr_new w rs).load hl
theorem rrow_none {w : World} {rs : List Tm.Rw} (h : RRow w none rs) : rs = [] := by
  by_cases e : rs = []
  · exact e
  · obtain ⟨b, off, h2, -⟩ := h.2 e; cases h2
/-- rows and a yes or no, told together -/
def RTold2 (w : World) (rs : List Tm.Rw) (b : Bool) (e : Ending) (w' : World) : Prop := ∃ v, e = .returned (.tuple #[v, .bool b]) ∧ ROwn w' w.heap.size v rs ∧ Below w.heap.size w w'
def Tm.ownPut (rs : List Tm.Rw) (e : Tm.Ent) : List Tm.Rw := if Tm.fits rs e = true then Tm.put rs e else rs
theorem ownPut_of {rs : List Tm.Rw} {e : Tm.Ent} (h : Tm.fits rs e = true) : Tm.ownPut rs e = Tm.put rs e := by unfold Tm.ownPut; rw [if_pos h]
theorem ownPut_no {rs : List Tm.Rw} {e : Tm.Ent} (h : Tm.fits rs e = false) : Tm.ownPut rs e = rs := by unfold Tm.ownPut; rw [if_neg (by simp [h])]
theorem ownPut_len (rs : List Tm.Rw) (e : Tm.Ent) : (Tm.ownPut rs e).length = rs.length := by unfold Tm.ownPut; split; exact Tm.put_len rs e; rfl
theorem fits_own {rs : List Tm.Rw} {e : Tm.Ent} (h : Tm.ownOk rs = false) : Tm.fits rs e = false := by unfold Tm.fits; rw [h]; rfl
theorem ownOk_fit {rs : List Tm.Rw} (h : Tm.ownOk rs = true) : ∀ r ∈ rs, FitR r := by
  intro r hr
  rcases Tm.rowOk_iff.1 ((Tm.ownOk_iff.1 h).2 r hr) with e | e
  · subst e; exact ⟨by simp [Tm.noRow], by simp [Tm.noRow]⟩
  · exact ⟨⟨by omega, by omega⟩, by omega, by omega⟩

set_option maxHeartbeats 1000000 in
theorem c58 (rs : List Tm.Rw) (w : World) (hl : rs.length = 8) (hf : ∀ r ∈ rs, FitR r) : Calls Tryz.prog 58 #[rowsV rs] w (RTold w rs) := by
  have HF := hide hf
  have HO : Hid ((w.alloc (.cells (rs.flatMap rCells).toArray 78)).ownsRow w.heap.size 78 3 (.slice (some ⟨w.heap.size, 0, none⟩) 8 8) rs.length (rs.flatMap rCells)) := by
    rw [hl]
    exact World.ownsRow_lit w (rs.flatMap rCells).toArray 8 (Nat.le_refl _) (by unfold maxLen; omega) (by simp [flat_len rCells 3 rCells_len, hl])
  clear hf hl
  go_enter Tryz.func58, Tryz.ntmps58
  go_wp2_with fail
  go_ret
  exact ⟨_, rfl, ⟨unhide HF, _, unhide HO⟩, below_a _⟩
theorem owns_mono {w : World} {b b' s n : Nat} {t : TypeId} {v : Value} {xs : List Value} (h : w.ownsRow b' t s v n xs) (hb : b ≤ b') : w.ownsRow b t s v n xs := by
  refine ⟨h.1, ?_⟩
  rcases h.2 with h | ⟨g, cap, cur, h1, h2, h3⟩
  · exact Or.inl h
  · exact Or.inr ⟨g, cap, cur, h1, Nat.le_trans hb h2, h3⟩
theorem ROwn.mono {w : World} {b b' : Nat} {v : Value} {rs : List Tm.Rw} (h : ROwn w b' v rs) (hb : b ≤ b') : ROwn w b v rs := by
  obtain ⟨f, t, h0⟩ := h
  exact ⟨f, t, owns_mono h0 hb⟩
theorem ret_lb2 {v : Value} {a b : Bool} (h : a = b) : Ending.returned (.tuple #[v, .bool a]) = .returned (.tuple #[v, .bool b]) := by rw [h]

end Go.Proofs.YtmlbphmbffkdnaaGreat
namespace Go.Proofs.YtmlbphmbffkdnaaGreat
open Go.RowKit
set_option linter.unusedVariables false
set_option maxRecDepth 100000

set_option maxHeartbeats 2000000 in
theorem c102 (rs : List Tm.Rw) (k t u p : Int) (ao : Option Addr) (n cap : Nat) (w : World) (hn : rs.length = n) (hm : n ≤ 1048576) (hr : RRow w ao rs) :
    Calls Tryz.prog 102 #[.slice ao n cap, entV k t u p] w fun e w' => e = .returned (.bool (Tm.fits rs (k, t, u, p))) ∧ Below w.heap.size w w' := by
  have HR := hide hr
  have HN := hide hn
  have hE := box_new w [.int .i64 k, .int .i64 t, .int .i64 u, .int .i64 p] 80 (by simp [Value.oneCell'])
  have HE := hide hE
  clear hr hn hE
  go_enter Tryz.func102, Tryz.ntmps102
  go_wp2_with fail
  refine (c73 rs ao n cap _ HN.out (by omega) ((unhide HR).bel (below_a _))).mono ?_
  rintro e w1 ⟨rfl, hb⟩
  have HB1 := hide (below_tr (below_a (w := w) _) hb)
  have hE1 := (unhide HE).below hb
  have HE1 := hide hE1
  have y0 := hE1.cell 0 rfl
  have y1 := hE1.cell 1 rfl
  have y2 := hE1.cell 2 rfl
  have y3 := hE1.cell 3 rfl
  clear hb hE1 HE
  rcases hk : Tm.ownOk rs with _ | _
  · have HF := hide (fits_own (e := (k, t, u, p)) hk)
    clear hk
    go_wp2_with fail
    go_ret
    exact ⟨ret_bool (unhide HF).symm, unhide HB1⟩
  have HO := hide hk
  clear hk
  go_wp2_with fail
  refine (c116 k t u p _).mono ?_
  rintro e w2 ⟨rfl, hb⟩
  have HB2 := hide (below_tr (unhide HB1) hb)
  have hE2 := (unhide HE1).below hb
  have HE2 := hide hE2
  have z0 := hE2.cell 0 rfl
  have z1 := hE2.cell 1 rfl
  have z2 := hE2.cell 2 rfl
  have z3 := hE2.cell 3 rfl
  have HR2 := hide ((unhide HR).bel (unhide HB2))
  clear hb hE2 HE1 y0 y1 y2 y3 HB1
  rcases hk : Tm.entOk (k, t, u, p) with _ | _
  · have HF := hide (fits_no (rs := rs) hk)
    clear hk
    go_wp2_with fail
    go_ret
    exact ⟨ret_bool (unhide HF).symm, unhide HB2⟩
  have hke := Tm.entOk_iff.1 hk
  dsimp only at hke
  obtain ⟨j, rfl⟩ : ∃ j : Nat, t = (j : Int) := ⟨t.toNat, by omega⟩
  have hl := (Tm.ownOk_iff.1 (unhide HO)).1
  have hjl : j < rs.length := by omega
  obtain ⟨b, off, rfl, hc⟩ := (unhide HR2).2 (by intro e; subst e; simp at hjl)
  obtain ⟨a, c, d, hj⟩ := r_at hjl
  obtain ⟨g0, g1, g2⟩ := r_cells (Below.refl _ _) hc hj
  have hfm := fits_of (unhide HO) hk (j := j) rfl hj
  have hn8 : (n : Int) = 8 := by have := HN.out; omega
  have hj1 : (j : Int) < (n : Int) := by omega
  have hj0 : (0 : Int) ≤ (j : Int) := by omega
  have hk3 := hke.2.2.2.2
  have hE3 := (unhide HE2).alloc (.cells #[.int .i64 a, .int .i64 c, .bool d] 29)
  have v0 := hE3.cell 0 rfl
  have v1 := hE3.cell 1 rfl
  have v2 := hE3.cell 2 rfl
  have v3 := hE3.cell 3 rfl
  clear hc hke hl hjl hE3 hn8
  rcases hk3 with ⟨h, -⟩ | ⟨h, -⟩ | ⟨h, -⟩ <;> subst h
  · rw [may_1] at hfm
    have HF := hide hfm
    clear hfm hk hj
    go_wp2_with fail
    go_ret
    exact ⟨ret_bool (by rw [unhide HF]; first | rfl | (rw [Bool.eq_iff_iff]; simp; done)), below_al (unhide HB2)⟩
  · rw [may_2] at hfm
    have HF := hide hfm
    clear hfm hk hj
    by_cases h0 : a = 0
    · subst h0
      have HE : Hid (passOk 0 c d u p = false) := by unfold Hid passOk; rw [decide_eq_false_iff_not]; intro e; exact e.1 rfl
      go_wp2_with fail
      go_quiet (fail)
      go_wp2_with fail
      go_ret
      exact ⟨ret_bool (by rw [unhide HF, unhide HE]), below_dn (below_al (unhide HB2)) _⟩
    have b0 : (a != 0) = true := by rw [bne_iff_ne]; exact h0
    cases d with
    | true =>
      have HE : Hid (passOk a c true u p = false) := by unfold Hid passOk; rw [decide_eq_false_iff_not]; intro e; exact absurd e.2.2.1 (by simp)
      clear h0
      go_wp2_with fail
      go_quiet (fail)
      go_wp2_with fail
      go_ret
      exact ⟨ret_bool (by rw [unhide HF, unhide HE]), below_dn (below_al (unhide HB2)) _⟩
    | false =>
      by_cases h1 : a = u
      · subst h1
        have HE : Hid (passOk a c false a p = false) := by unfold Hid passOk; rw [decide_eq_false_iff_not]; intro e; exact e.2.1 rfl
        clear h0
        go_wp2_with fail
        go_quiet (fail)
        go_wp2_with fail
        go_ret
        exact ⟨ret_bool (by rw [unhide HF, unhide HE]), below_dn (below_al (unhide HB2)) _⟩
      have b1 : (a != u) = true := by rw [bne_iff_ne]; exact h1
      have HE : Hid (passOk a c false u p = decide (p ≤ Tm.cap c)) := by unfold Hid passOk; rw [Bool.eq_iff_iff, decide_eq_true_iff, decide_eq_true_iff]; exact ⟨fun e => e.2.2.2, fun e => ⟨h0, h1, rfl, e⟩⟩
      clear h0 h1
      go_wp2_with fail
      go_quiet ((go_at_call 67; exact Calls.quiet_of_same (c67 _ _)))
      go_wp2_with fail
      go_ret
      exact ⟨ret_bool (by rw [unhide HF, unhide HE]), below_dn (below_al (unhide HB2)) _⟩
  · rw [may_3] at hfm
    have HF := hide hfm
    clear hfm hk hj
    by_cases h0 : a = u
    · subst h0
      go_wp2_with fail
      go_ret
      exact ⟨ret_bool (by rw [unhide HF]; first | rfl | (simp; done)), below_al (unhide HB2)⟩
    · have b0 : (a == u) = false := by simpa using h0
      have HE := hide (decide_eq_false h0)
      clear h0
      go_wp2_with fail
      go_ret
      exact ⟨ret_bool (by rw [unhide HF, unhide HE]; rfl), below_al (unhide HB2)⟩
end Go.Proofs.YtmlbphmbffkdnaaGreat
namespace Go.Proofs.YtmlbphmbffkdnaaGreat
open Go.RowKit
set_option linter.unusedVariables false
set_option maxRecDepth 100000

theorem set_same {α : Type} {L : List α} {i : Nat} {v : α} (h : L[i]? = some v) : L.set i v = L := by
  apply List.ext_getElem?
  intro k
  by_cases e : i = k
  · subst e
    rw [h, List.getElem?_set_self]
    rcases Nat.lt_or_ge i L.length with h2 | h2
    · exact h2
    · rw [List.getElem?_eq_none h2] at h; cases h
  · rw [List.getElem?_set_ne e]
theorem flat_get {rs : List Tm.Rw} {j : Nat} {a c : Int} {d : Bool} (hj : rs[j]? = some (a, c, d)) : (rs.flatMap rCells)[j * 3]? = some (.int .i64 a) ∧ (rs.flatMap rCells)[j * 3 + 1]? = some (.int .i64 c) ∧ (rs.flatMap rCells)[j * 3 + 2]? = some (.bool d) :=
  ⟨flat_at rCells 3 rCells_len rs j 0 _ _ hj rfl, flat_at rCells 3 rCells_len rs j 1 _ _ hj rfl, flat_at rCells 3 rCells_len rs j 2 _ _ hj rfl⟩
theorem lt_of_get {α : Type} {L : List α} {i : Nat} {v : α} (h : L[i]? = some v) : i < L.length := by
  rcases Nat.lt_or_ge i L.length with h2 | h2
  · exact h2
  · rw [List.getElem?_eq_none h2] at h; cases h
theorem flat_who {rs : List Tm.Rw} {j : Nat} {a c : Int} {d : Bool} (hj : rs[j]? = some (a, c, d)) (x : Int) : (rs.flatMap rCells).set (j * 3) (.int .i64 x) = (rs.set j (x, c, d)).flatMap rCells := by
  obtain ⟨h0, h1, h2⟩ := flat_get hj
  rw [← flat_set rCells 3 rCells_len rs j (x, c, d) (lt_of_get hj)]
  show _ = (((rs.flatMap rCells).set (j * 3) (.int .i64 x)).set (j * 3 + 1) (.int .i64 c)).set (j * 3 + 1 + 1) (.bool d)
  rw [set_same (i := j * 3 + 1) (by rw [List.getElem?_set_ne (by omega)]; exact h1), set_same (i := j * 3 + 1 + 1) (by rw [List.getElem?_set_ne (by omega)]; exact h2)]
theorem flat_used {rs : List Tm.Rw} {j : Nat} {a c : Int} {d : Bool} (hj : rs[j]? = some (a, c, d)) (x : Bool) : (rs.flatMap rCells).set (j * 3 + 2) (.bool x) = (rs.set j (a, c, x)).flatMap rCells := by
  obtain ⟨h0, h1, h2⟩ := flat_get hj
  rw [← flat_set rCells 3 rCells_len rs j (a, c, x) (lt_of_get hj)]
  show _ = (((rs.flatMap rCells).set (j * 3) (.int .i64 a)).set (j * 3 + 1) (.int .i64 c)).set (j * 3 + 1 + 1) (.bool x)
  rw [set_same h0, set_same h1]
theorem put_at {rs : List Tm.Rw} {k u p : Int} {j : Nat} {r : Tm.Rw} (hj : rs[j]? = some r) : Tm.put rs (k, (j : Int), u, p) = rs.set j (Tm.turned r (k, (j : Int), u, p)) := by
  show rs.set (j : Int).toNat (Tm.turned (Tm.at' rs (j : Int)) _) = _
  rw [at_get hj, Int.toNat_natCast]
theorem rowns_empty (w : World) (o : Obj) : ((w.alloc o).alloc (.cells #[] 29)).ownsRow w.heap.size 29 3 (.slice (some ⟨w.heap.size + 1, 0, none⟩) 0 0) 0 [] := by
  have := World.ownsRow_lit (base := w.heap.size) (e := 29) (size := 3) (w.alloc o) #[] 0 (by simp) (by unfold maxLen; omega) rfl
  simpa using this

set_option maxHeartbeats 4000000 in
theorem c68 (rs : List Tm.Rw) (k t u p : Int) (ao : Option Addr) (n cap : Nat) (w : World) (hn : rs.length = n) (hm : n ≤ 1048576) (hz : ao = none → cap = 0) (hr : RRow w ao rs) :
    Calls Tryz.prog 68 #[.slice ao n cap, entV k t u p] w (RTold2 w (Tm.ownPut rs (k, t, u, p)) (Tm.fits rs (k, t, u, p))) := by
  subst hn
  obtain ⟨i0, hi, hz0, hz1, hz2⟩ := info_parts Tryz.infoR
  have HF := hide hr.1
  have HR := hide hr
  have HE := hide ((box_new w [.int .i64 k, .int .i64 t, .int .i64 u, .int .i64 p] 80 (by simp [Value.oneCell'])).alloc (.cells #[] 29))
  have HB0 := hide (below_al (o := .cells #[] 29) (below_a (w := w) (.cells #[.int .i64 k, .int .i64 t, .int .i64 u, .int .i64 p] 80)))
  have HO := hide (rowns_empty w (.cells #[.int .i64 k, .int .i64 t, .int .i64 u, .int .i64 p] 80))
  cases ao with
  | none =>
    have h0 : rs = [] := rrow_none hr
    have hc0 := hz rfl
    subst hc0
    subst h0
    clear hr hz
    have hno := fits_own (rs := []) (e := (k, t, u, p)) (by decide)
    have HNO := hide hno
    have HP := hide (ownPut_no hno)
    have hy := unhide HE
    have y0 := hy.cell 0 rfl
    have y1 := hy.cell 1 rfl
    have y2 := hy.cell 2 rfl
    have y3 := hy.cell 3 rfl
    clear hno hy
    go_enter Tryz.func68, Tryz.ntmps68
    go_wp2_with (first | (at_builtin; refine wpList_append_own_none rfl _ _ 44 rfl w.heap.size 29 i0 3 Tryz.underlying44 hi _ 0 [] rfl (unhide HO) rfl ?_) | fail)
    refine (c102 [] k t u p none 0 0 _ rfl hm ((unhide HR).bel (unhide HB0))).mono ?_
    rintro e w2 ⟨rfl, hb2⟩
    rw [unhide HNO]
    have HO2 := hide (owns_below (unhide HO) hb2)
    have HB2 := hide (below_tr (unhide HB0) hb2)
    clear hb2 y0 y1 y2 y3
    go_wp2_with fail
    go_ret2
    exact ⟨_, ret_lb2 (unhide HNO).symm, by rw [unhide HP]; exact ⟨unhide HF, _, unhide HO2⟩, unhide HB2⟩
  | some ad =>
    have HC := hide (rrow_src (hr.bel (unhide HB0)))
    have hfl := flat_len rCells 3 rCells_len rs
    have hy := unhide HE
    have y0 := hy.cell 0 rfl
    have y1 := hy.cell 1 rfl
    have y2 := hy.cell 2 rfl
    have y3 := hy.cell 3 rfl
    clear hr hz hy
    go_enter Tryz.func68, Tryz.ntmps68
    go_wp2_with (first | (at_builtin; refine wpList_append_own _ rfl _ _ 44 rfl w.heap.size 29 i0 _ 3 24 Tryz.underlying44 hi hz0 hz1 hz2 rfl (by decide) _ _ _ rfl (unhide HO) ad rs.length cap (rs.flatMap rCells) rfl hfl (unhide HC) (flat_oneCell rs) (by simp [maxLen]; omega) (by simp; omega) (unhide HB0).size ?_; intro v' w3 hown' hgrow _; have hgrow : World.grownBy _ w3 (some (w.heap.size + 1)) := hgrow; have HW : Hid (w3.ownsRow w.heap.size 29 3 v' rs.length (rs.flatMap rCells)) := (by unfold Hid; simpa using hown'); have HB3 := hide (grown_below (unhide HB0) hgrow (fun q hq => by cases hq; omega)); have hy := (unhide HE).kpt hgrow (fun e => by simp only [Option.some.injEq] at e; omega); have HE3 := hide hy; clear y0 y1 y2 y3; have y0 := hy.cell 0 rfl; have y1 := hy.cell 1 rfl; have y2 := hy.cell 2 rfl; have y3 := hy.cell 3 rfl; clear hy hown' hgrow HB0 HE HO HC) | fail)
    obtain ⟨ao1, cap1, rfl, hcap1, -, hbl⟩ := owns_read rCells_len (unhide HW)
    refine (c102 rs k t u p (some ad) rs.length cap _ rfl hm ((unhide HR).bel (unhide HB3))).mono ?_
    rintro e w4 ⟨rfl, hb4⟩
    have HW4 := hide (owns_below (unhide HW) hb4)
    have HB4 := hide (below_tr (unhide HB3) hb4)
    have hy := (unhide HE3).below hb4
    have z0 := hy.cell 0 rfl
    have z1 := hy.cell 1 rfl
    have z2 := hy.cell 2 rfl
    have z3 := hy.cell 3 rfl
    clear hb4 hy y0 y1 y2 y3 HW HB3 HE3
    rcases hf : Tm.fits rs (k, t, u, p) with _ | _
    · have HP := hide (ownPut_no hf)
      have HNO := hide hf
      clear hf
      go_wp2_with fail
      go_ret2
      exact ⟨_, ret_lb2 (unhide HNO).symm, by rw [unhide HP]; exact ⟨unhide HF, _, unhide HW4⟩, unhide HB4⟩
    have hfi := Tm.fits_iff.1 hf
    have hke := Tm.entOk_iff.1 hfi.2.1
    dsimp only at hke
    obtain ⟨j, rfl⟩ : ∃ j : Nat, t = (j : Int) := ⟨t.toNat, by omega⟩
    have hl := (Tm.ownOk_iff.1 hfi.1).1
    have hjl : j < rs.length := by omega
    obtain ⟨a, c, d, hj⟩ := r_at hjl
    have HPF := hide (ownOk_fit (Tm.put_ok hf))
    have HP := hide ((ownPut_of hf).trans (put_at (k := k) (u := u) (p := p) hj))
    have HP2 := hide (put_at (k := k) (u := u) (p := p) hj)
    have hg : ∃ g, ao1 = some ⟨g, 0, none⟩ := by
      rcases (unhide HW4).2 with ⟨hv, hz⟩ | ⟨g', cap', cur, hv, rr⟩
      · omega
      · cases hv; exact ⟨g', rfl⟩
    obtain ⟨g, rfl⟩ := hg
    have hbg : w.heap.size ≤ g := (hbl _ rfl).1
    obtain ⟨f0, f1, f2⟩ := flat_get hj
    have c0 : w4.cell? ⟨g, j * 3, none⟩ = some (.int .i64 a) := by rw [(unhide HW4).cellAt (j * 3) (by omega)]; exact f0
    have c1 : w4.cell? ⟨g, j * 3 + 1, none⟩ = some (.int .i64 c) := by rw [(unhide HW4).cellAt (j * 3 + 1) (by omega)]; exact f1
    have c2 : w4.cell? ⟨g, j * 3 + 2, none⟩ = some (.bool d) := by rw [(unhide HW4).cellAt (j * 3 + 2) (by omega)]; exact f2
    have q0 := (unhide HW4).frozenAt (j * 3)
    have q1 := (unhide HW4).frozenAt (j * 3 + 1)
    have q2 := (unhide HW4).frozenAt (j * 3 + 2)
    have HNO := hide hf
    have HJ := hide hj
    have hj1 : (j : Int) < (rs.length : Int) := by omega
    have hj0 : (0 : Int) ≤ (j : Int) := by omega
    have hk3 := hke.2.2.2.2
    have HL := hide hl
    have HJL := hide hjl
    clear hf hfi hke hj hl hbl f0 f1 f2
    rcases hk3 with ⟨h, -⟩ | ⟨h, -⟩ | ⟨h, -⟩ <;> subst h
    · have hp := putR (unhide HW4) rfl (unhide HJL) u p false
      have HW5 := hide hp.1
      have HG5 := hide hp.2.1
      clear hp
      go_wp2_with fail
      go_ret2
      refine ⟨_, ret_lb2 (unhide HNO).symm, ?_, ?_⟩
      · rw [unhide HP]
        refine ⟨by rw [← unhide HP2]; exact unhide HPF, 29, ?_⟩
        rw [List.length_set]
        exact unhide HW5
      · exact grown_below (unhide HB4) (unhide HG5) (fun q hq => by cases hq; exact hbg)
    · have hst := (unhide HW4).stored (j * 3) (.int .i64 u)
      rw [flat_who (unhide HJ) u] at hst
      have HW5 := hide hst.1
      have HG5 := hide hst.2
      clear hst
      go_wp2_with fail
      go_ret2
      refine ⟨_, ret_lb2 (unhide HNO).symm, ?_, ?_⟩
      · rw [unhide HP]
        refine ⟨by rw [← unhide HP2]; exact unhide HPF, 29, ?_⟩
        rw [List.length_set]
        exact unhide HW5
      · exact grown_below (unhide HB4) (unhide HG5) (fun q hq => by cases hq; exact hbg)
    · have hst := (unhide HW4).stored (j * 3 + 2) (.bool true)
      rw [flat_used (unhide HJ) true] at hst
      have HW5 := hide hst.1
      have HG5 := hide hst.2
      clear hst
      go_wp2_with fail
      go_ret2
      refine ⟨_, ret_lb2 (unhide HNO).symm, ?_, ?_⟩
      · rw [unhide HP]
        refine ⟨by rw [← unhide HP2]; exact unhide HPF, 29, ?_⟩
        rw [List.length_set]
        exact unhide HW5
      · exact grown_below (unhide HB4) (unhide HG5) (fun q hq => by cases hq; exact hbg)
end Go.Proofs.YtmlbphmbffkdnaaGreat
