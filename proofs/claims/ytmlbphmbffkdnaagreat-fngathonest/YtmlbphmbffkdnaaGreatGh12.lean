/-
  Texts of the proof, what it needs of them: Tkb, Fits.
-/
import Derived.BigQuiet
import Derived.Deep.QuietTactic
import Derived.Deep.RegionHeld3
import Derived.Test.YtmlbphmbffkdnaaGreatGh00
import Derived.Test.YtmlbphmbffkdnaaGreatGh11
import Derived.WalkKit
import Derived.WalkLawsBesides
import Derived.WalkSpells
namespace Go.Proofs.YtmlbphmbffkdnaaGreat
open Go.RowKit
set_option linter.unusedVariables false
set_option maxRecDepth 100000

section
variable {P : Program} {ops : Array Oper} {Q : Exit → Act → World → Prop} {md : Region.Mode} {S : World → Prop}
/-- a step that only reads is taken -/
theorem tk (i : Nat) (d : Option Tmp) {b : Op} {t : TypeId} {p : String} {f : Array Edge} {g : Option (Nat × Bool)} {v : Value} {fuel : Nat} {listed : Array Bool} {a : Act} {w : World}
    (hv : ∀ w, S w → (execOp a.eval { dst := d, op := b, type := t, pos := p, after := f, guard := g }).run P w = .ok (.value v) w)
    (h : wpAnyH P md ops Q S fuel (listed.setIfInBounds i true) (a.put d v) w)
    (hi : ops[i]? = some { dst := d, op := b, type := t, pos := p, after := f, guard := g } := by rfl)
    (hS : S w := by assumption) (hs : Region.noSelect ops = true := by kernel_rfl) (hf : Region.free md ops listed i = true := by kernel_rfl) (hr : (Region.ready md ops listed).contains i = true := by kernel_rfl)
    (hQ : ∀ c a w, Q (.panic c) (a.put d v) w → Q (.panic c) a w := by exact fun _ _ _ h => h)
    (hw : Region.wanted { dst := d, op := b, type := t, pos := p, after := f, guard := g } (yielded ops a.tmps) = true := by rfl) :
    wpAnyH P md ops Q S (fuel + 1) listed a w := wpAnyH_take (oi := { dst := d, op := b, type := t, pos := p, after := f, guard := g }) hi hs hf hr hQ (Or.inl ⟨hw, hv⟩) hS h
/-- a step whose guard says no is passed by -/
theorem sk (i : Nat) (d : Option Tmp) {b : Op} {t : TypeId} {p : String} {f : Array Edge} {g : Option (Nat × Bool)} {fuel : Nat} {listed : Array Bool} {a : Act} {w : World}
    (h : wpAnyH P md ops Q S fuel (listed.setIfInBounds i true) (a.put d undef) w)
    (hi : ops[i]? = some { dst := d, op := b, type := t, pos := p, after := f, guard := g } := by rfl)
    (hS : S w := by assumption) (hs : Region.noSelect ops = true := by kernel_rfl) (hf : Region.free md ops listed i = true := by kernel_rfl) (hr : (Region.ready md ops listed).contains i = true := by kernel_rfl)
    (hQ : ∀ c a w, Q (.panic c) (a.put d undef) w → Q (.panic c) a w := by exact fun _ _ _ h => h)
    (hw : Region.wanted { dst := d, op := b, type := t, pos := p, after := f, guard := g } (yielded ops a.tmps) = false := by rfl) :
    wpAnyH P md ops Q S (fuel + 1) listed a w := wpAnyH_take (oi := { dst := d, op := b, type := t, pos := p, after := f, guard := g }) hi hs hf hr hQ (Or.inr ⟨hw, rfl⟩) hS h
end

end Go.Proofs.YtmlbphmbffkdnaaGreat
namespace Go.Proofs.YtmlbphmbffkdnaaGreat
open Go.RowKit
set_option linter.unusedVariables false
set_option maxRecDepth 100000

theorem Arr.cells {w : World} {g j : Nat} {rs : List Tm.Rw} (h : Arr w g rs) {a c : Int} {d : Bool} (hj : rs[j]? = some (a, c, d)) :
    w.cell? ⟨g, j * 3, none⟩ = some (.int .i64 a) ∧ w.cell? ⟨g, j * 3 + 1, none⟩ = some (.int .i64 c) ∧ w.cell? ⟨g, j * 3 + 2, none⟩ = some (.bool d) := by
  have key : ∀ (i : Nat) (v : Value), (rCells (a, c, d))[i]? = some v → w.cell? ⟨g, j * 3 + i, none⟩ = some v := by
    intro i v hv
    have h1 := flat_at rCells 3 rCells_len rs j i (a, c, d) v hj hv
    rw [cell_of_row w g (j * 3 + i) _ _ _ h]
    simpa using h1
  exact ⟨key 0 _ rfl, key 1 _ rfl, key 2 _ rfl⟩
theorem at_get {rs : List Tm.Rw} {j : Nat} {r : Tm.Rw} (h : rs[j]? = some r) : Tm.at' rs (j : Int) = r := by
  show rs.getD (j : Int).toNat Tm.noRow = r
  simp [List.getD, h]
theorem fits_of {rs : List Tm.Rw} {e : Tm.Ent} {j : Nat} {r : Tm.Rw} (ho : Tm.ownOk rs = true) (he : Tm.entOk e = true) (hj : e.2.1 = (j : Int)) (hr : rs[j]? = some r) : Tm.fits rs e = Tm.may r e := by
  unfold Tm.fits; rw [ho, he, hj, at_get hr]; rfl
theorem fits_no {rs : List Tm.Rw} {e : Tm.Ent} (he : Tm.entOk e = false) : Tm.fits rs e = false := by unfold Tm.fits; rw [he]; simp
set_option maxHeartbeats 2000000 in
theorem c56 (rs : List Tm.Rw) (k t u p : Int) (w : World) (ho : Tm.ownOk rs = true) : Calls Tryz.prog 56 #[rowsV rs, entV k t u p] w fun e w' => e = .returned (.bool (Tm.fits rs (k, t, u, p))) ∧ Below w.heap.size w w' := by
  have hl := (Tm.ownOk_iff.1 ho).1
  have hA := (arr_new w rs).alloc (.cells #[.int .i64 k, .int .i64 t, .int .i64 u, .int .i64 p] 80)
  have hE := box_new (w.alloc (.cells (rs.flatMap rCells).toArray 78)) [.int .i64 k, .int .i64 t, .int .i64 u, .int .i64 p] 80 (by simp [Value.oneCell'])
  rw [show (w.alloc (.cells (rs.flatMap rCells).toArray 78)).heap.size = w.heap.size + 1 by simp] at hE
  have hb := below_al (o := .cells #[.int .i64 k, .int .i64 t, .int .i64 u, .int .i64 p] 80) (below_a (w := w) (.cells (rs.flatMap rCells).toArray 78))
  have HA := hide hA
  have HE := hide hE
  have HB := hide hb
  have HO := hide ho
  have HL := hide hl
  clear hA hE hb hl ho
  go_enter Tryz.func56, Tryz.ntmps56
  go_wp2_with fail
  generalize (w.alloc (.cells (rs.flatMap rCells).toArray 78)).alloc (.cells #[.int .i64 k, .int .i64 t, .int .i64 u, .int .i64 p] 80) = W at *
  rcases hk : Tm.entOk (k, t, u, p) with _ | _
  · have HF := hide (fits_no (rs := rs) hk)
    have HK := hide hk
    clear hk
    refine wp_region_held_drew (S := fun w' => Below W.heap.size W w') (by kernel_rfl) (below_drew W) (fun hHeld => ?_)
    refine tk 0 (some 5) (v := ?_) ?_ ?_
    rotate_left
    · intro w hSw
      have hT := (unhide HE).below hSw; have y0 := hT.cell 0 rfl; have y1 := hT.cell 1 rfl; have y2 := hT.cell 2 rfl; have y3 := hT.cell 3 rfl
      first | (go_simp; done) | (go_simp; with_reducible rfl)
    try simp only [Act.put, List.setIfInBounds_toArray, List.set_cons_zero, List.set_cons_succ]
    have HB0 := below_drew W
    generalize W.drew = V0 at *
    refine wpAnyH_ready (rs := [1]) (by kernel_rfl) (by simp) ?_
    refine AllReadyH.cons (o := { dst := some 6, op := _, type := _, pos := _, after := _, guard := _ }) rfl (fun K hK => ?_) AllReadyH.nil
    go_simp
    go_at_call 88
    refine (c88 k t u p _).mono ?_
    rintro e v1 ⟨rfl, hbn⟩
    rw [unhide HK]
    have HB1 := below_then HB0 hbn
    clear hbn HB0
    try go_wp2_with fail
    refine hK.out _ _ HB1 (fun hHeld => ?_)
    clear hK K hHeld
    try simp only [Act.put, List.setIfInBounds_toArray, List.set_cons_zero, List.set_cons_succ]
    refine tk 2 (some 7) (v := ?_) ?_ ?_
    rotate_left
    · intro w hSw
      first | (go_simp; done) | (go_simp; with_reducible rfl)
    try simp only [Act.put, List.setIfInBounds_toArray, List.set_cons_zero, List.set_cons_succ]
    refine sk 3 (some 8) ?_
    try simp only [Act.put, List.setIfInBounds_toArray, List.set_cons_zero, List.set_cons_succ]
    refine sk 4 (some 9) ?_
    try simp only [Act.put, List.setIfInBounds_toArray, List.set_cons_zero, List.set_cons_succ]
    refine sk 5 (some 10) ?_
    try simp only [Act.put, List.setIfInBounds_toArray, List.set_cons_zero, List.set_cons_succ]
    refine sk 6 (some 11) ?_
    try simp only [Act.put, List.setIfInBounds_toArray, List.set_cons_zero, List.set_cons_succ]
    refine sk 7 (some 12) ?_
    try simp only [Act.put, List.setIfInBounds_toArray, List.set_cons_zero, List.set_cons_succ]
    refine sk 8 (some 13) ?_
    try simp only [Act.put, List.setIfInBounds_toArray, List.set_cons_zero, List.set_cons_succ]
    refine tk 9 (some 14) (v := ?_) ?_ ?_
    rotate_left
    · intro w hSw
      first | (go_simp; done) | (go_simp; with_reducible rfl)
    try simp only [Act.put, List.setIfInBounds_toArray, List.set_cons_zero, List.set_cons_succ]
    refine tk 10 (some 4) (v := ?_) ?_ ?_
    rotate_left
    · intro w hSw
      first | (go_simp; done) | (go_simp; with_reducible rfl)
    try simp only [Act.put, List.setIfInBounds_toArray, List.set_cons_zero, List.set_cons_succ]
    refine wpAnyH_done (by kernel_rfl) ?_ _
    have HB2 := hide (below_tr (unhide HB) HB1)
    clear HB1
    go_wp2_with fail
    go_ret
    exact ⟨ret_bool (unhide HF).symm, unhide HB2⟩
  · have hke := Tm.entOk_iff.1 hk
    dsimp only at hke
    obtain ⟨j, rfl⟩ : ∃ j : Nat, t = (j : Int) := ⟨t.toNat, by omega⟩
    have hj8 : j < 8 := by omega
    have hjl : j < rs.length := by rw [unhide HL]; exact hj8
    obtain ⟨a, c, d, hj⟩ := r_at hjl
    have HJ := hide hj
    have HF := hide (fits_of (unhide HO) hk (j := j) rfl hj)
    have HK := hide hk
    have hj1 : (j : Int) < 8 := by omega
    have hj0 : (0 : Int) ≤ (j : Int) := by omega
    clear hk hke hj hjl
    refine wp_region_held_drew (S := fun w' => Below W.heap.size W w') (by kernel_rfl) (below_drew W) (fun hHeld => ?_)
    refine tk 0 (some 5) (v := ?_) ?_ ?_
    rotate_left
    · intro w hSw
      have hT := (unhide HE).below hSw; have y0 := hT.cell 0 rfl; have y1 := hT.cell 1 rfl; have y2 := hT.cell 2 rfl; have y3 := hT.cell 3 rfl
      first | (go_simp; done) | (go_simp; with_reducible rfl)
    try simp only [Act.put, List.setIfInBounds_toArray, List.set_cons_zero, List.set_cons_succ]
    have HB0 := below_drew W
    generalize W.drew = V0 at *
    refine wpAnyH_ready (rs := [1]) (by kernel_rfl) (by simp) ?_
    refine AllReadyH.cons (o := { dst := some 6, op := _, type := _, pos := _, after := _, guard := _ }) rfl (fun K hK => ?_) AllReadyH.nil
    go_simp
    go_at_call 88
    refine (c88 k (j : Int) u p _).mono ?_
    rintro e v1 ⟨rfl, hbn⟩
    rw [unhide HK]
    have HB1 := below_then HB0 hbn
    clear hbn HB0
    try go_wp2_with fail
    refine hK.out _ _ HB1 (fun hHeld => ?_)
    clear hK K hHeld
    try simp only [Act.put, List.setIfInBounds_toArray, List.set_cons_zero, List.set_cons_succ]
    refine tk 2 (some 7) (v := ?_) ?_ ?_
    rotate_left
    · intro w hSw
      first | (go_simp; done) | (go_simp; with_reducible rfl)
    try simp only [Act.put, List.setIfInBounds_toArray, List.set_cons_zero, List.set_cons_succ]
    refine tk 3 (some 8) (v := ?_) ?_ ?_
    rotate_left
    · intro w hSw
      first | (go_simp; done) | (go_simp; with_reducible rfl)
    try simp only [Act.put, List.setIfInBounds_toArray, List.set_cons_zero, List.set_cons_succ]
    refine tk 4 (some 9) (v := ?_) ?_ ?_
    rotate_left
    · intro w hSw
      have hT := (unhide HE).below hSw; have y0 := hT.cell 0 rfl; have y1 := hT.cell 1 rfl; have y2 := hT.cell 2 rfl; have y3 := hT.cell 3 rfl
      first | (go_simp; done) | (go_simp; with_reducible rfl)
    try simp only [Act.put, List.setIfInBounds_toArray, List.set_cons_zero, List.set_cons_succ]
    refine tk 5 (some 10) (v := ?_) ?_ ?_
    rotate_left
    · intro w hSw
      first | (go_simp; done) | (go_simp; with_reducible rfl)
    try simp only [Act.put, List.setIfInBounds_toArray, List.set_cons_zero, List.set_cons_succ]
    refine tk 6 (some 11) (v := ?_) ?_ ?_
    rotate_left
    · intro w hSw
      have hT := (unhide HE).below hSw; have y0 := hT.cell 0 rfl; have y1 := hT.cell 1 rfl; have y2 := hT.cell 2 rfl; have y3 := hT.cell 3 rfl; have hAr := (unhide HA).bel hSw; obtain ⟨x0, x1, x2⟩ := hAr.cells (unhide HJ)
      first | (go_simp; done) | (go_simp; with_reducible rfl)
    try simp only [Act.put, List.setIfInBounds_toArray, List.set_cons_zero, List.set_cons_succ]
    refine tk 7 (some 12) (v := ?_) ?_ ?_
    rotate_left
    · intro w hSw
      have hT := (unhide HE).below hSw; have y0 := hT.cell 0 rfl; have y1 := hT.cell 1 rfl; have y2 := hT.cell 2 rfl; have y3 := hT.cell 3 rfl
      first | (go_simp; done) | (go_simp; with_reducible rfl)
    try simp only [Act.put, List.setIfInBounds_toArray, List.set_cons_zero, List.set_cons_succ]
    refine wpAnyH_ready (rs := [8]) (by kernel_rfl) (by simp) ?_
    refine AllReadyH.cons (o := { dst := some 13, op := _, type := _, pos := _, after := _, guard := _ }) rfl (fun K hK => ?_) AllReadyH.nil
    go_simp
    go_at_call 89
    refine (c89 a c d k (j : Int) u p _ (unhide HK)).mono ?_
    rintro e v2 ⟨rfl, hbn⟩
    have HB2 := below_then HB1 hbn
    clear hbn HB1
    try go_wp2_with fail
    refine hK.out _ _ HB2 (fun hHeld => ?_)
    clear hK K hHeld
    try simp only [Act.put, List.setIfInBounds_toArray, List.set_cons_zero, List.set_cons_succ]
    refine tk 9 (some 14) (v := ?_) ?_ ?_
    rotate_left
    · intro w hSw
      first | (go_simp; done) | (go_simp; with_reducible rfl)
    try simp only [Act.put, List.setIfInBounds_toArray, List.set_cons_zero, List.set_cons_succ]
    refine tk 10 (some 4) (v := ?_) ?_ ?_
    rotate_left
    · intro w hSw
      first | (go_simp; done) | (go_simp; with_reducible rfl)
    try simp only [Act.put, List.setIfInBounds_toArray, List.set_cons_zero, List.set_cons_succ]
    refine wpAnyH_done (by kernel_rfl) ?_ _
    have HB3 := hide (below_tr (unhide HB) HB2)
    clear HB2
    go_wp2_with fail
    go_ret
    exact ⟨ret_bool (unhide HF).symm, unhide HB3⟩
end Go.Proofs.YtmlbphmbffkdnaaGreat
namespace Go.Proofs.YtmlbphmbffkdnaaGreat
open Go.RowKit
set_option linter.unusedVariables false
set_option maxRecDepth 100000
theorem ta_1_1 (v : Value) (w : World) : (Instr.typeAssert (.iface 135 v) 130 135 true).run Tryz.prog w = .ok (.tuple #[v, .bool true]) w := by kernel_rfl
theorem ta_2_1 (v : Value) (w : World) : (Instr.typeAssert (.iface 136 v) 130 135 true).run Tryz.prog w = .ok (.tuple #[entV 0 0 0 0, .bool false]) w := by kernel_rfl
theorem ta_2_2 (v : Value) (w : World) : (Instr.typeAssert (.iface 136 v) 130 136 true).run Tryz.prog w = .ok (.tuple #[v, .bool true]) w := by kernel_rfl
theorem ta_3_1 (v : Value) (w : World) : (Instr.typeAssert (.iface 137 v) 130 135 true).run Tryz.prog w = .ok (.tuple #[entV 0 0 0 0, .bool false]) w := by kernel_rfl
theorem ta_3_2 (v : Value) (w : World) : (Instr.typeAssert (.iface 137 v) 130 136 true).run Tryz.prog w = .ok (.tuple #[entV 0 0 0 0, .bool false]) w := by kernel_rfl
theorem ta_3_3 (v : Value) (w : World) : (Instr.typeAssert (.iface 137 v) 130 137 true).run Tryz.prog w = .ok (.tuple #[v, .bool true]) w := by kernel_rfl

set_option maxHeartbeats 2000000 in
theorem behind_1 (a c : Int) (d : Bool) (t u p : Int) (w : World) : Calls Tryz.prog 90 #[rowV a c d, entV 1 t u p] w fun e w' => e = .returned (rowV u p false) ∧ Below w.heap.size w w' := by
  have hX := ((box_new w [.int .i64 a, .int .i64 c, .bool d] 29 (by simp [Value.oneCell'])).alloc (.cells #[.int .i64 1, .int .i64 t, .int .i64 u, .int .i64 p] 80)).alloc (.cells #[.int .i64 0, .int .i64 0, .bool false] 29)
  have hR := box_new ((w.alloc (.cells #[.int .i64 a, .int .i64 c, .bool d] 29)).alloc (.cells #[.int .i64 1, .int .i64 t, .int .i64 u, .int .i64 p] 80)) [.int .i64 0, .int .i64 0, .bool false] 29 (by simp [Value.oneCell'])
  rw [show ((w.alloc (.cells #[.int .i64 a, .int .i64 c, .bool d] 29)).alloc (.cells #[.int .i64 1, .int .i64 t, .int .i64 u, .int .i64 p] 80)).heap.size = w.heap.size + 1 + 1 by simp] at hR
  have HX := hide hX
  have HR := hide hR
  have HB0 := hide (below_al (o := .cells #[.int .i64 0, .int .i64 0, .bool false] 29) (below_al (o := .cells #[.int .i64 1, .int .i64 t, .int .i64 u, .int .i64 p] 80) (below_a (w := w) (.cells #[.int .i64 a, .int .i64 c, .bool d] 29))))
  clear hX hR
  go_enter Tryz.func90, Tryz.ntmps90
  go_wp2_with fail
  refine (c108 1 t u p _).mono ?_
  rintro e w1 ⟨rfl, hb1⟩
  rw [show kindV 1 t u p = .iface 135 (entV 1 t u p) by rfl]
  have hx := ((unhide HX).below hb1).alloc (.cells #[.int .i64 1, .int .i64 t, .int .i64 u, .int .i64 p] 135)
  have hr := ((unhide HR).below hb1).alloc (.cells #[.int .i64 1, .int .i64 t, .int .i64 u, .int .i64 p] 135)
  have HB1 := hide (below_tr (unhide HB0) hb1)
  have x0 := hx.cell 0 rfl
  have x1 := hx.cell 1 rfl
  have x2 := hx.cell 2 rfl
  have f0 := hx.frozen 0 rfl
  have f2 := hx.frozen 2 rfl
  have r0 := hr.cell 0 rfl
  have r1 := hr.cell 1 rfl
  have r2 := hr.cell 2 rfl
  have q0 := hr.frozen 0 rfl
  have q1 := hr.frozen 1 rfl
  have q2 := hr.frozen 2 rfl
  clear hb1 hx hr HX HR HB0
  have t1 := ta_1_1 (entV 1 t u p)
  go_wp2_with fail
  exact bodyPost_ret (v := rowV u p false) (by simp [results, Tryz.results90, go_sem, r0, r1, r2]) rfl ⟨rfl, (((below_al (unhide HB1)).setCell (p := ⟨w.heap.size + 1 + 1, 0, none⟩) (by show _ ≤ w.heap.size + 1 + 1; omega) _).setCell (p := ⟨w.heap.size + 1 + 1, 1, none⟩) (by show _ ≤ w.heap.size + 1 + 1; omega) _).setCell (p := ⟨w.heap.size + 1 + 1, 2, none⟩) (by show _ ≤ w.heap.size + 1 + 1; omega) _⟩

set_option maxHeartbeats 2000000 in
theorem behind_2 (a c : Int) (d : Bool) (t u p : Int) (w : World) : Calls Tryz.prog 90 #[rowV a c d, entV 2 t u p] w fun e w' => e = .returned (rowV u c d) ∧ Below w.heap.size w w' := by
  have hX := ((box_new w [.int .i64 a, .int .i64 c, .bool d] 29 (by simp [Value.oneCell'])).alloc (.cells #[.int .i64 2, .int .i64 t, .int .i64 u, .int .i64 p] 80)).alloc (.cells #[.int .i64 0, .int .i64 0, .bool false] 29)
  have hR := box_new ((w.alloc (.cells #[.int .i64 a, .int .i64 c, .bool d] 29)).alloc (.cells #[.int .i64 2, .int .i64 t, .int .i64 u, .int .i64 p] 80)) [.int .i64 0, .int .i64 0, .bool false] 29 (by simp [Value.oneCell'])
  rw [show ((w.alloc (.cells #[.int .i64 a, .int .i64 c, .bool d] 29)).alloc (.cells #[.int .i64 2, .int .i64 t, .int .i64 u, .int .i64 p] 80)).heap.size = w.heap.size + 1 + 1 by simp] at hR
  have HX := hide hX
  have HR := hide hR
  have HB0 := hide (below_al (o := .cells #[.int .i64 0, .int .i64 0, .bool false] 29) (below_al (o := .cells #[.int .i64 2, .int .i64 t, .int .i64 u, .int .i64 p] 80) (below_a (w := w) (.cells #[.int .i64 a, .int .i64 c, .bool d] 29))))
  clear hX hR
  go_enter Tryz.func90, Tryz.ntmps90
  go_wp2_with fail
  refine (c108 2 t u p _).mono ?_
  rintro e w1 ⟨rfl, hb1⟩
  rw [show kindV 2 t u p = .iface 136 (entV 2 t u p) by rfl]
  have hx := ((unhide HX).below hb1).alloc (.cells #[.int .i64 2, .int .i64 t, .int .i64 u, .int .i64 p] 136)
  have hr := ((unhide HR).below hb1).alloc (.cells #[.int .i64 2, .int .i64 t, .int .i64 u, .int .i64 p] 136)
  have HB1 := hide (below_tr (unhide HB0) hb1)
  have x0 := hx.cell 0 rfl
  have x1 := hx.cell 1 rfl
  have x2 := hx.cell 2 rfl
  have f0 := hx.frozen 0 rfl
  have f2 := hx.frozen 2 rfl
  have r0 := hr.cell 0 rfl
  have r1 := hr.cell 1 rfl
  have r2 := hr.cell 2 rfl
  have q0 := hr.frozen 0 rfl
  have q1 := hr.frozen 1 rfl
  have q2 := hr.frozen 2 rfl
  clear hb1 hx hr HX HR HB0
  have t1 := ta_2_1 (entV 2 t u p)
  have t2 := ta_2_2 (entV 2 t u p)
  go_wp2_with fail
  exact bodyPost_ret (v := rowV u c d) (by simp [results, Tryz.results90, go_sem, r0, r1, r2]) rfl ⟨rfl, ((((below_al (unhide HB1)).setCell (p := ⟨w.heap.size, 0, none⟩) (Nat.le_refl _) _).setCell (p := ⟨w.heap.size + 1 + 1, 0, none⟩) (by show _ ≤ w.heap.size + 1 + 1; omega) _).setCell (p := ⟨w.heap.size + 1 + 1, 1, none⟩) (by show _ ≤ w.heap.size + 1 + 1; omega) _).setCell (p := ⟨w.heap.size + 1 + 1, 2, none⟩) (by show _ ≤ w.heap.size + 1 + 1; omega) _⟩

set_option maxHeartbeats 2000000 in
theorem behind_3 (a c : Int) (d : Bool) (t u p : Int) (w : World) : Calls Tryz.prog 90 #[rowV a c d, entV 3 t u p] w fun e w' => e = .returned (rowV a c true) ∧ Below w.heap.size w w' := by
  have hX := ((box_new w [.int .i64 a, .int .i64 c, .bool d] 29 (by simp [Value.oneCell'])).alloc (.cells #[.int .i64 3, .int .i64 t, .int .i64 u, .int .i64 p] 80)).alloc (.cells #[.int .i64 0, .int .i64 0, .bool false] 29)
  have hR := box_new ((w.alloc (.cells #[.int .i64 a, .int .i64 c, .bool d] 29)).alloc (.cells #[.int .i64 3, .int .i64 t, .int .i64 u, .int .i64 p] 80)) [.int .i64 0, .int .i64 0, .bool false] 29 (by simp [Value.oneCell'])
  rw [show ((w.alloc (.cells #[.int .i64 a, .int .i64 c, .bool d] 29)).alloc (.cells #[.int .i64 3, .int .i64 t, .int .i64 u, .int .i64 p] 80)).heap.size = w.heap.size + 1 + 1 by simp] at hR
  have HX := hide hX
  have HR := hide hR
  have HB0 := hide (below_al (o := .cells #[.int .i64 0, .int .i64 0, .bool false] 29) (below_al (o := .cells #[.int .i64 3, .int .i64 t, .int .i64 u, .int .i64 p] 80) (below_a (w := w) (.cells #[.int .i64 a, .int .i64 c, .bool d] 29))))
  clear hX hR
  go_enter Tryz.func90, Tryz.ntmps90
  go_wp2_with fail
  refine (c108 3 t u p _).mono ?_
  rintro e w1 ⟨rfl, hb1⟩
  rw [show kindV 3 t u p = .iface 137 (entV 3 t u p) by rfl]
  have hx := ((unhide HX).below hb1).alloc (.cells #[.int .i64 3, .int .i64 t, .int .i64 u, .int .i64 p] 137)
  have hr := ((unhide HR).below hb1).alloc (.cells #[.int .i64 3, .int .i64 t, .int .i64 u, .int .i64 p] 137)
  have HB1 := hide (below_tr (unhide HB0) hb1)
  have x0 := hx.cell 0 rfl
  have x1 := hx.cell 1 rfl
  have x2 := hx.cell 2 rfl
  have f0 := hx.frozen 0 rfl
  have f2 := hx.frozen 2 rfl
  have r0 := hr.cell 0 rfl
  have r1 := hr.cell 1 rfl
  have r2 := hr.cell 2 rfl
  have q0 := hr.frozen 0 rfl
  have q1 := hr.frozen 1 rfl
  have q2 := hr.frozen 2 rfl
  clear hb1 hx hr HX HR HB0
  have t1 := ta_3_1 (entV 3 t u p)
  have t2 := ta_3_2 (entV 3 t u p)
  have t3 := ta_3_3 (entV 3 t u p)
  go_wp2_with fail
  exact bodyPost_ret (v := rowV a c true) (by simp [results, Tryz.results90, go_sem, r0, r1, r2]) rfl ⟨rfl, ((((below_al (unhide HB1)).setCell (p := ⟨w.heap.size, 2, none⟩) (Nat.le_refl _) _).setCell (p := ⟨w.heap.size + 1 + 1, 0, none⟩) (by show _ ≤ w.heap.size + 1 + 1; omega) _).setCell (p := ⟨w.heap.size + 1 + 1, 1, none⟩) (by show _ ≤ w.heap.size + 1 + 1; omega) _).setCell (p := ⟨w.heap.size + 1 + 1, 2, none⟩) (by show _ ≤ w.heap.size + 1 + 1; omega) _⟩

def rowOf (r : Tm.Rw) : Value := rowV r.1 r.2.1 r.2.2
theorem c90 (a c : Int) (d : Bool) (k t u p : Int) (w : World) (hk : Tm.entOk (k, t, u, p) = true) : Calls Tryz.prog 90 #[rowV a c d, entV k t u p] w fun e w' => e = .returned (rowOf (Tm.turned (a, c, d) (k, t, u, p))) ∧ Below w.heap.size w w' := by
  rw [Tm.entOk_iff] at hk
  rcases hk.2.2.2.2 with ⟨h, -⟩ | ⟨h, -⟩ | ⟨h, -⟩ <;> (dsimp only at h; subst h)
  · exact behind_1 a c d t u p w
  · exact behind_2 a c d t u p w
  · exact behind_3 a c d t u p w
end Go.Proofs.YtmlbphmbffkdnaaGreat
namespace Go.Proofs.YtmlbphmbffkdnaaGreat
open Go.RowKit
set_option linter.unusedVariables false
set_option maxRecDepth 100000

theorem Arr.frozen {w : World} {g : Nat} {rs : List Tm.Rw} (h : Arr w g rs) (i : Nat) : w.frozen? ⟨g, i, none⟩ = false := by
  unfold Arr at h
  simp [World.frozen?, h]
theorem grown_cell (w : World) (g i : Nat) (v : Value) : w.grownBy (w.setCell ⟨g, i, none⟩ v) (some g) := by
  refine ⟨rfl, rfl, rfl, by simp, fun k hk hne => ?_⟩
  have hgk : g ≠ k := fun e => hne (by rw [e])
  show (w.heap.modify g _)[k]? = _
  rw [Array.getElem?_modify, if_neg hgk]
theorem Arr.kpt {w w' : World} {g : Nat} {rs : List Tm.Rw} {row : Option Nat} (h : Arr w g rs) (hg : w.grownBy w' row) (hne : some g ≠ row) : Arr w' g rs := (hg.block g h.lt hne).trans h
theorem Arr.put3 {w : World} {g j : Nat} {rs : List Tm.Rw} (h : Arr w g rs) (hj : j < rs.length) (a c : Int) (d : Bool) :
    Arr (((w.setCell ⟨g, j * 3, none⟩ (.int .i64 a)).setCell ⟨g, j * 3 + 1, none⟩ (.int .i64 c)).setCell ⟨g, j * 3 + 2, none⟩ (.bool d)) g (rs.set j (a, c, d)) := by
  have e := flat_set rCells 3 rCells_len rs j (a, c, d) hj
  unfold Arr at h ⊢
  rw [← e]
  generalize hL : rs.flatMap rCells = L at *
  have h1 : (w.setCell ⟨g, j * 3, none⟩ (.int .i64 a)).heap[g]? = some (.cells (L.set (j * 3) (.int .i64 a)).toArray 78 (0, 0)) := by
    rw [setCell_eq_setRow w g (j * 3) _ _ _ _ h, setRow_heap _ _ _ _ _ _ h]; simp
  have h2 : ((w.setCell ⟨g, j * 3, none⟩ (.int .i64 a)).setCell ⟨g, j * 3 + 1, none⟩ (.int .i64 c)).heap[g]? = some (.cells ((L.set (j * 3) (.int .i64 a)).set (j * 3 + 1) (.int .i64 c)).toArray 78 (0, 0)) := by
    rw [setCell_eq_setRow _ g (j * 3 + 1) _ _ _ _ h1, setRow_heap _ _ _ _ _ _ h1]; simp
  rw [setCell_eq_setRow _ g (j * 3 + 2) _ _ _ _ h2, setRow_heap _ _ _ _ _ _ h2]
  simp [setAll, rCells]
set_option maxHeartbeats 2000000 in
theorem c57 (rs : List Tm.Rw) (k t u p : Int) (w : World) (hl : rs.length = 8) (hk : Tm.entOk (k, t, u, p) = true) : Calls Tryz.prog 57 #[rowsV rs, entV k t u p] w fun e w' => e = .returned (rowsV (Tm.put rs (k, t, u, p))) ∧ Below w.heap.size w w' := by
  have hA := ((arr_new w rs).alloc (.cells #[.int .i64 k, .int .i64 t, .int .i64 u, .int .i64 p] 80)).alloc (.cells (Tm.none8.flatMap rCells).toArray 78)
  have hE := (box_new (w.alloc (.cells (rs.flatMap rCells).toArray 78)) [.int .i64 k, .int .i64 t, .int .i64 u, .int .i64 p] 80 (by simp [Value.oneCell'])).alloc (.cells (Tm.none8.flatMap rCells).toArray 78)
  rw [show (w.alloc (.cells (rs.flatMap rCells).toArray 78)).heap.size = w.heap.size + 1 by simp] at hE
  have hR := arr_new ((w.alloc (.cells (rs.flatMap rCells).toArray 78)).alloc (.cells #[.int .i64 k, .int .i64 t, .int .i64 u, .int .i64 p] 80)) Tm.none8
  rw [show ((w.alloc (.cells (rs.flatMap rCells).toArray 78)).alloc (.cells #[.int .i64 k, .int .i64 t, .int .i64 u, .int .i64 p] 80)).heap.size = w.heap.size + 1 + 1 by simp] at hR
  have hb := below_al (o := .cells (Tm.none8.flatMap rCells).toArray 78) (below_al (o := .cells #[.int .i64 k, .int .i64 t, .int .i64 u, .int .i64 p] 80) (below_a (w := w) (.cells (rs.flatMap rCells).toArray 78)))
  have hke := Tm.entOk_iff.1 hk
  dsimp only at hke
  obtain ⟨j, rfl⟩ : ∃ j : Nat, t = (j : Int) := ⟨t.toNat, by omega⟩
  have hj8 : j < 8 := by omega
  have hjl : j < rs.length := by rw [hl]; exact hj8
  obtain ⟨a, c, d, hj⟩ := r_at hjl
  have hput : Tm.put rs (k, (j : Int), u, p) = rs.set j (Tm.turned (a, c, d) (k, (j : Int), u, p)) := by
    show rs.set (j : Int).toNat (Tm.turned (Tm.at' rs (j : Int)) _) = _
    rw [at_get hj, Int.toNat_natCast]
  obtain ⟨a', c', d', hT⟩ : ∃ a' c' d', Tm.turned (a, c, d) (k, (j : Int), u, p) = (a', c', d') := ⟨_, _, _, rfl⟩
  rw [hT] at hput
  have hj1 : (j : Int) < 8 := by omega
  have hj0 : (0 : Int) ≤ (j : Int) := by omega
  have HA := hide hA
  have HE := hide hE
  have HR := hide hR
  have HB := hide hb
  have HL := hide hl
  have HJ := hide hj
  have HK := hide hk
  have HP := hide hput
  have HT := hide hT
  have HJL := hide hjl
  clear hA hE hb hl hR hj hk hput hT hke hjl
  go_enter Tryz.func57, Tryz.ntmps57
  go_wp2_with fail
  have hzz : (#[Value.int IntKind.i64 0, Value.int IntKind.i64 0, Value.bool false, Value.int IntKind.i64 0, Value.int IntKind.i64 0, Value.bool false, Value.int IntKind.i64 0, Value.int IntKind.i64 0, Value.bool false, Value.int IntKind.i64 0, Value.int IntKind.i64 0, Value.bool false, Value.int IntKind.i64 0, Value.int IntKind.i64 0, Value.bool false, Value.int IntKind.i64 0, Value.int IntKind.i64 0, Value.bool false, Value.int IntKind.i64 0, Value.int IntKind.i64 0, Value.bool false, Value.int IntKind.i64 0, Value.int IntKind.i64 0, Value.bool false] : Array Value) = (Tm.none8.flatMap rCells).toArray := rfl
  rw [hzz]
  clear hzz
  generalize ((w.alloc (.cells (rs.flatMap rCells).toArray 78)).alloc (.cells #[.int .i64 k, .int .i64 (j : Int), .int .i64 u, .int .i64 p] 80)).alloc (.cells (Tm.none8.flatMap rCells).toArray 78) = W at *
  refine wp_region_held_drew (S := fun w' => Below w.heap.size w w' ∧ Box w' (w.heap.size + 1) [.int .i64 k, .int .i64 (j : Int), .int .i64 u, .int .i64 p]) (by kernel_rfl) ⟨below_tr (unhide HB) (below_drew W), (unhide HE).drew⟩ (fun hHeld => ?_)
  refine tk 0 (some 5) (v := ?_) ?_ ?_
  rotate_left
  · intro w hSw
    first | (go_simp; done) | (go_simp; with_reducible rfl)
  try simp only [Act.put, List.setIfInBounds_toArray, List.set_cons_zero, List.set_cons_succ]
  refine tk 1 (some 6) (v := ?_) ?_ ?_
  rotate_left
  · intro w hSw
    have hT := hSw.2; have y0 := hT.cell 0 rfl; have y1 := hT.cell 1 rfl; have y2 := hT.cell 2 rfl; have y3 := hT.cell 3 rfl
    first | (go_simp; done) | (go_simp; with_reducible rfl)
  try simp only [Act.put, List.setIfInBounds_toArray, List.set_cons_zero, List.set_cons_succ]
  refine tk 2 (some 7) (v := ?_) ?_ ?_
  rotate_left
  · intro w hSw
    first | (go_simp; done) | (go_simp; with_reducible rfl)
  try simp only [Act.put, List.setIfInBounds_toArray, List.set_cons_zero, List.set_cons_succ]
  refine tk 3 (some 8) (v := ?_) ?_ ?_
  rotate_left
  · intro w hSw
    have hT := hSw.2; have y0 := hT.cell 0 rfl; have y1 := hT.cell 1 rfl; have y2 := hT.cell 2 rfl; have y3 := hT.cell 3 rfl
    first | (go_simp; done) | (go_simp; with_reducible rfl)
  try simp only [Act.put, List.setIfInBounds_toArray, List.set_cons_zero, List.set_cons_succ]
  refine tk 4 (some 9) (v := ?_) ?_ ?_
  rotate_left
  · intro w hSw
    first | (go_simp; done) | (go_simp; with_reducible rfl)
  try simp only [Act.put, List.setIfInBounds_toArray, List.set_cons_zero, List.set_cons_succ]
  refine tk 6 (some 11) (v := ?_) ?_ ?_
  rotate_left
  · intro w hSw
    have hT := hSw.2; have y0 := hT.cell 0 rfl; have y1 := hT.cell 1 rfl; have y2 := hT.cell 2 rfl; have y3 := hT.cell 3 rfl
    first | (go_simp; done) | (go_simp; with_reducible rfl)
  try simp only [Act.put, List.setIfInBounds_toArray, List.set_cons_zero, List.set_cons_succ]
  have hA0 := (unhide HA).bel (below_drew W)
  have hR0 := (unhide HR).bel (below_drew W)
  have hE0 := (unhide HE).drew
  have HB0 := below_tr (unhide HB) (below_drew W)
  generalize W.drew = V0 at *
  obtain ⟨x0, x1, x2⟩ := hA0.cells (unhide HJ)
  refine wpAnyH_ready (rs := [5]) (by kernel_rfl) (by simp) ?_
  refine AllReadyH.cons (o := { dst := some 10, op := _, type := _, pos := _, after := _, guard := _ }) rfl (fun K hK => ?_) AllReadyH.nil
  go_simp
  try go_wp2_with fail
  refine hK.out _ _ ⟨HB0, hE0⟩ (fun hHeld => ?_)
  clear hK K hHeld
  try simp only [Act.put, List.setIfInBounds_toArray, List.set_cons_zero, List.set_cons_succ]
  refine wpAnyH_ready (rs := [7]) (by kernel_rfl) (by simp) ?_
  refine AllReadyH.cons (o := { dst := some 12, op := _, type := _, pos := _, after := _, guard := _ }) rfl (fun K hK => ?_) AllReadyH.nil
  go_simp
  go_at_call 90
  refine (c90 a c d k (j : Int) u p _ (unhide HK)).mono ?_
  rintro e v1 ⟨rfl, hbn⟩
  rw [unhide HT, show rowOf (a', c', d') = rowV a' c' d' by rfl]
  have hA1 := hA0.bel hbn
  have hR1 := hR0.bel hbn
  have hE1 := hE0.below hbn
  have HB1 := below_tr HB0 hbn
  clear hbn HB0 hA0 hR0 hE0 x0 x1 x2
  try go_wp2_with fail
  refine hK.out _ _ ⟨HB1, hE1⟩ (fun hHeld => ?_)
  clear hK K hHeld
  try simp only [Act.put, List.setIfInBounds_toArray, List.set_cons_zero, List.set_cons_succ]
  have hS1 : (fun w' => Below w.heap.size w w' ∧ Box w' (w.heap.size + 1) [.int .i64 k, .int .i64 (j : Int), .int .i64 u, .int .i64 p]) v1 := ⟨HB1, hE1⟩
  refine tk 8 (some 13) (v := ?_) ?_ ?_
  rotate_left
  · intro w hSw
    first | (go_simp; done) | (go_simp; with_reducible rfl)
  try simp only [Act.put, List.setIfInBounds_toArray, List.set_cons_zero, List.set_cons_succ]
  obtain ⟨x0, x1, x2⟩ := hA1.cells (unhide HJ)
  have z0 := hA1.frozen (j * 3)
  have z1 := hA1.frozen (j * 3 + 1)
  have z2 := hA1.frozen (j * 3 + 2)
  refine wpAnyH_ready (rs := [9]) (by kernel_rfl) (by simp) ?_
  refine AllReadyH.cons (o := { dst := none, op := _, type := _, pos := _, after := _, guard := _ }) rfl (fun K hK => ?_) AllReadyH.nil
  go_simp
  have hA2 := hA1.put3 (unhide HJL) a' c' d'
  have hB2 := (((HB1.setCell (p := ⟨w.heap.size, j * 3, none⟩) (Nat.le_refl _) (.int .i64 a')).setCell (p := ⟨w.heap.size, j * 3 + 1, none⟩) (Nat.le_refl _) (.int .i64 c')).setCell (p := ⟨w.heap.size, j * 3 + 2, none⟩) (Nat.le_refl _) (.bool d'))
  have hg2 := grown_tr' (grown_tr' (grown_cell v1 w.heap.size (j * 3) (.int .i64 a')) (grown_cell _ w.heap.size (j * 3 + 1) (.int .i64 c'))) (grown_cell _ w.heap.size (j * 3 + 2) (.bool d'))
  have hE2 := hE1.kpt hg2 (fun e => by simp only [Option.some.injEq] at e; omega)
  have hR2 := hR1.kpt hg2 (fun e => by simp only [Option.some.injEq] at e; omega)
  try go_wp2_with fail
  refine hK.out _ _ ⟨hB2, hE2⟩ (fun hHeld => ?_)
  clear hK K hHeld
  try simp only [Act.put, List.setIfInBounds_toArray, List.set_cons_zero, List.set_cons_succ]
  rw [← unhide HP] at hA2
  have HA2 := hide hA2
  have HB2 := hide hB2
  have HR2 := hide hR2
  clear hA2 hB2 hR2 hE2 hg2 hA1 hR1 hE1 HB1 x0 x1 x2 z0 z1 z2
  generalize ((v1.setCell ⟨w.heap.size, j * 3, none⟩ (.int .i64 a')).setCell ⟨w.heap.size, j * 3 + 1, none⟩ (.int .i64 c')).setCell ⟨w.heap.size, j * 3 + 2, none⟩ (.bool d') = v2 at *
  have HL2 : Hid ((Tm.put rs (k, (j : Int), u, p)).length = 8) := by unfold Hid; rw [Tm.put_len]; exact unhide HL
  generalize hrs2 : Tm.put rs (k, (j : Int), u, p) = rs2 at *
  have HRS := hide hrs2
  clear hrs2
  refine wpAnyH_done (by kernel_rfl) ?_ _
  go_wp2_with (first | (refine wpList_load_run rfl _ 78 rfl _ rfl ((unhide HA2).load (unhide HL2)) ?_) | (refine wpList_store_run rfl _ _ 78 rfl _ _ rfl rfl ((unhide HR2).store rfl (unhide HL2)) ?_))
  have hld := ((unhide HR2).set rs2).loadVar (unhide HL2)
  have HF := hide (below_row (unhide HB2) (show w.heap.size ≤ w.heap.size + 1 + 1 by omega) (rs2.flatMap rCells).toArray)
  generalize v2.setRow (w.heap.size + 1 + 1) (rs2.flatMap rCells).toArray = w3 at *
  go_wp2_with fail
  exact bodyPost_ret (v := rowsV rs2) (results_c Tryz.results57 rfl hld) rfl ⟨by rw [unhide HRS], unhide HF⟩
end Go.Proofs.YtmlbphmbffkdnaaGreat
