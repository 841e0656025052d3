/-
  Texts of the proof, what it needs of them: Roots.
-/
import Derived.Deep.AppendLies
import Derived.Test.YtmlbphmbffkdnaaGs06
namespace Go.Proofs.Ytmlbphmbffkdnaa
open Go.RowKit
set_option linter.unusedVariables false

set_option maxHeartbeats 1000000 in
theorem c190 (f : Nat) : ∀ (zs : List Int) (ao : Option Addr) (n cap : Nat) (w : World), zs.length ≤ f → zs.length = n → n ≤ 40 → n ≤ cap → Row w ao zs →
    Calls Try.prog 190 #[.slice ao n cap] w fun e w' => e = .returned (.int .i64 (Tm.root zs)) ∧ ∃ q, w' = w.drewN q := by
  induction f with
  | zero =>
    intro zs ao n cap w hf hn h40 hcap hr
    have hz : zs = [] := List.eq_nil_of_length_eq_zero (by omega)
    subst hz
    have hn0 : n = 0 := by simpa using hn.symm
    subst hn0
    have HU := hide (Tm.root_nil (l := []) rfl)
    clear hr hn hf
    go_enter Try.func190, Try.ntmps190
    go_wp2_with fail
    go_ret
    exact ⟨ret_int (unhide HU).symm, 0, rfl⟩
  | succ f ih =>
    intro zs ao n cap w hf hn h40 hcap hr
    by_cases h0 : n = 0
    · subst h0
      have HU := hide (Tm.root_nil hn)
      clear hr hn hf ih
      go_enter Try.func190, Try.ntmps190
      go_wp2_with fail
      go_ret
      exact ⟨ret_int (unhide HU).symm, 0, rfl⟩
    · obtain ⟨b, off, rfl, hc⟩ := hr.2 (by intro e; subst e; simp at hn; omega)
      have d0 : ((n : Int) == 0) = false := by rw [beq_eq_false_iff_ne]; omega
      by_cases h1 : n = 1
      · subst h1
        have HU := hide (Tm.root_one hn)
        have hcell := hc 0 (by omega)
        simp only [Nat.add_zero] at hcell
        generalize zs.getD 0 0 = x at *
        clear hr hn hf ih hc
        go_enter Try.func190, Try.ntmps190
        go_wp2_with fail
        go_ret
        exact ⟨ret_int (unhide HU).symm, 0, rfl⟩
      · have d1 : ((n : Int) == 1) = false := by rw [beq_eq_false_iff_ne]; omega
        have hs := Tm.sp_bd (l := zs) (by omega) (by omega)
        have hsi := Tm.sp_int (l := zs) (by omega) (by omega)
        rw [hn] at hsi hs
        have hts := Tm.treSplit_of (n := (n : Int)) (by omega) (by omega)
        rw [hsi] at hts
        have HU := hide (Tm.root_more (l := zs) (by omega) (by omega))
        have HTS := hide hts
        obtain ⟨s1, s2, s3⟩ := hs
        have HL := hide (fun (w' : World) (hr' : Row w' (some ⟨b, off, none⟩) (zs.take (Tm.sp zs))) => ih (zs.take (Tm.sp zs)) (some ⟨b, off, none⟩) (Tm.sp zs) cap w' (by rw [List.length_take]; omega) (by rw [List.length_take]; omega) (by omega) (by omega) hr')
        have HR := hide (fun (w' : World) (hr' : Row w' (some ⟨b, off + Tm.sp zs, none⟩) (zs.drop (Tm.sp zs))) => ih (zs.drop (Tm.sp zs)) (some ⟨b, off + Tm.sp zs, none⟩) (n - Tm.sp zs) (cap - Tm.sp zs) w' (by rw [List.length_drop]; omega) (by rw [List.length_drop]; omega) (by omega) (by omega) hr')
        have HRT := hide (hr.take (Tm.sp zs))
        have HRD := hide (hr.drop (Tm.sp zs))
        generalize zs.take (Tm.sp zs) = lt at *
        generalize zs.drop (Tm.sp zs) = rt at *
        generalize Tm.sp zs = s at *
        clear hc hr hn hf ih hsi hts
        go_enter Try.func190, Try.ntmps190
        go_wp2_with fail
        refine (c219 _ _).mono ?_
        rintro e w1 ⟨rfl, rfl⟩
        rw [unhide HTS]
        go_wp2_with fail
        go_quiet ((first | (go_at_call_of 190 (Value.slice (some ⟨b, off, none⟩) s cap); exact Calls.quiet_of (unhide HL _ (by exact (unhide HRT).drewN _))) | (go_at_call 220; exact Calls.quiet_of_same (c220 _ _ _)) | (go_at_call 190; exact Calls.quiet_of (unhide HR _ (by exact (unhide HRD).drewN _)))))
        go_wp2_with fail
        go_ret
        exact ⟨ret_int (unhide HU).symm, _, rfl⟩
end Go.Proofs.Ytmlbphmbffkdnaa
namespace Go.Proofs.Ytmlbphmbffkdnaa
open Go.RowKit
set_option linter.unusedVariables false

/-- A tree of leaves in memory, as the program builds it: its root, how many leaves, and, of two or more, both parts. -/
def TreeAt : Nat → World → Nat → List Int → Prop
  | 0, _, _, _ => False
  | f + 1, w, p, l => w.cell? ⟨p, 0, none⟩ = some (.int .i64 (Tm.root l)) ∧ w.cell? ⟨p, 1, none⟩ = some (.int .i64 l.length) ∧
      (2 ≤ l.length → ∃ pl pr, w.cell? ⟨p, 2, none⟩ = some (.pointer (some ⟨pl, 0, none⟩)) ∧ w.cell? ⟨p, 3, none⟩ = some (.pointer (some ⟨pr, 0, none⟩)) ∧ TreeAt f w pl (l.take (Tm.sp l)) ∧ TreeAt f w pr (l.drop (Tm.sp l)))
theorem TreeAt.below {w w' : World} (hb : Below w.heap.size w w') : ∀ (f p : Nat) (l : List Int), TreeAt f w p l → TreeAt f w' p l := by
  intro f
  induction f with
  | zero => intro p l h; exact h
  | succ f ih =>
    intro p l h
    obtain ⟨h0, h1, h2⟩ := h
    refine ⟨cell_below hb h0, cell_below hb h1, fun hl => ?_⟩
    obtain ⟨pl, pr, h3, h4, h5, h6⟩ := h2 hl
    exact ⟨pl, pr, cell_below hb h3, cell_below hb h4, ih _ _ h5, ih _ _ h6⟩
theorem TreeAt.root {f : Nat} {w : World} {p : Nat} {l : List Int} (h : TreeAt f w p l) : w.cell? ⟨p, 0, none⟩ = some (.int .i64 (Tm.root l)) := by
  cases f with
  | zero => exact h.elim
  | succ f => exact h.1
theorem TreeAt.drew {w : World} {f p : Nat} {l : List Int} (h : TreeAt f w p l) : TreeAt f w.drew p l := h.below (below_drew w) f p l

def Treed (f : Nat) (w : World) (l : List Int) (e : Ending) (w' : World) : Prop := ∃ p, e = .returned (.pointer (some ⟨p, 0, none⟩)) ∧ TreeAt f w' p l ∧ Below w.heap.size w w'

end Go.Proofs.Ytmlbphmbffkdnaa
namespace Go.Proofs.Ytmlbphmbffkdnaa
open Go.RowKit
set_option linter.unusedVariables false

theorem treRoot_of {l : List Int} (h1 : l.length ≤ 40) (h2 : Tm.okAll l = true) : Tm.treRoot l = Tm.root l := by
  unfold Tm.treRoot Tm.treOk; rw [h2, decide_eq_true h1]; rfl

end Go.Proofs.Ytmlbphmbffkdnaa
namespace Go.Proofs.Ytmlbphmbffkdnaa
open Go.RowKit
set_option linter.unusedVariables false

theorem grown_of_below {w w' : World} (h : Below w.heap.size w w') : w.grownBy w' none := ⟨h.os, h.tape, h.output, h.size, fun k hk _ => h.block k hk⟩
theorem Own.below {w w' : World} {base : Nat} {v : Value} {zs : List Int} (h : Own w base v zs) (hb : Below w.heap.size w w') : Own w' base v zs := by
  refine ⟨h.1, h.2.kept (grown_of_below hb) ?_⟩
  cases hv : v.ownBlock with
  | none => exact Or.inl rfl
  | some b => exact Or.inr (by simp)
theorem c190b (zs : List Int) (ao : Option Addr) (n cap : Nat) (w : World) (hn : zs.length = n) (h40 : n ≤ 40) (hcap : n ≤ cap) (hr : Row w ao zs) :
    Calls Try.prog 190 #[.slice ao n cap] w fun e w' => e = .returned (.int .i64 (Tm.root zs)) ∧ Below w.heap.size w w' := by
  refine (c190 n zs ao n cap w (by omega) hn h40 hcap hr).mono ?_
  rintro e w1 ⟨rfl, q, rfl⟩
  exact ⟨rfl, below_drewN (Below.refl _ _) q⟩

theorem wrap_sub {x : Int} (h1 : -9223372036854775808 ≤ x) (h2 : x ≤ 9223372036854775807) : IntKind.i64.wrap x = x := by
  simp [IntKind.wrap, IntKind.bits, IntKind.signed]; omega
/-- a new list that is told back: it lies in memory of the call's own -/
def Told (w : World) (zs : List Int) (e : Ending) (w' : World) : Prop := ∃ v, e = .returned v ∧ Own w' w.heap.size v zs ∧ Below w.heap.size w w'

theorem ok_fits {x : Int} (h : Tm.okB x = true) : -9223372036854775808 ≤ x ∧ x ≤ 9223372036854775807 := by have := (Tm.okB_iff x).1 h; omega
theorem own_fin {w w1 w2 : World} {v : Value} {zs : List Int} {x : Int} {g cap : Nat} {o : Obj} (h0 : Below w.heap.size w w1) (ho : Own w1 w.heap.size v zs) (hx : -9223372036854775808 ≤ x ∧ x ≤ 9223372036854775807)
    (hown : w2.ownsRow w.heap.size 3 1 (.slice (some ⟨g, 0, none⟩) (zs.length + 1) cap) (zs.length + 1) (zs.map (Value.int .i64) ++ [.int .i64 x])) (hg : (w1.alloc o).grownBy w2 v.ownBlock) :
    Own w2 w.heap.size (.slice (some ⟨g, 0, none⟩) (zs.length + 1) cap) (zs ++ [x]) ∧ Below w.heap.size w w2 :=
  ⟨own_snoc ho.1 hx hown, (h0.alloc h0.size o).grown hg (by have := h0.size; simp; omega) (fun k hk => own_block ho k hk)⟩

end Go.Proofs.Ytmlbphmbffkdnaa
namespace Go.Proofs.Ytmlbphmbffkdnaa
open Go.RowKit
set_option linter.unusedVariables false

/-- A block that holds these values, each of which may be written. -/
def Box (w : World) (g : Nat) (vs : List Value) : Prop := ∀ j v, vs[j]? = some v → w.cell? ⟨g, j, none⟩ = some v ∧ w.frozen? ⟨g, j, none⟩ = false
theorem Box.cell {w : World} {g : Nat} {vs : List Value} (h : Box w g vs) (j : Nat) {v : Value} (hv : vs[j]? = some v) : w.cell? ⟨g, j, none⟩ = some v := (h j v hv).1
theorem Box.frozen {w : World} {g : Nat} {vs : List Value} (h : Box w g vs) (j : Nat) {v : Value} (hv : vs[j]? = some v) : w.frozen? ⟨g, j, none⟩ = false := (h j v hv).2
theorem Box.lt {w : World} {g : Nat} {v : Value} {vs : List Value} (h : Box w g (v :: vs)) : g < w.heap.size := World.block_lt_of_cell? w _ (h 0 v rfl).1
theorem Box.below {W w : World} {g : Nat} {vs : List Value} (h : Box W g vs) (hb : Below W.heap.size W w) : Box w g vs := fun j v hv =>
  have hc := (h j v hv).1
  ⟨cell_below hb hc, (hb.frozen (p := ⟨g, j, none⟩) (World.block_lt_of_cell? W _ hc)).trans (h j v hv).2⟩
theorem Box.alloc {W : World} {g : Nat} {vs : List Value} (h : Box W g vs) (o : Obj) : Box (W.alloc o) g vs := h.below ((Below.refl _ _).alloc (Nat.le_refl _) _)
theorem Box.drew {W : World} {g : Nat} {vs : List Value} (h : Box W g vs) : Box W.drew g vs := h.below (below_drew W)
theorem box_new (W : World) (vs : List Value) (t : Nat) (h1 : ∀ v ∈ vs, v.oneCell' = true) : Box (W.alloc (.cells vs.toArray t)) W.heap.size vs := by
  intro j v hv
  refine ⟨?_, by simp⟩
  rw [World.cell?_alloc_new]
  simpa using hv
/-- the cells of a block, written one behind the other -/
def putAll (w : World) (g : Nat) : Nat → List Value → World
  | _, [] => w
  | j, v :: vs => putAll (w.setCell ⟨g, j, none⟩ v) g (j + 1) vs
theorem putAll_lo : ∀ (vs : List Value) (w : World) (g i j : Nat), i < j → (putAll w g j vs).cell? ⟨g, i, none⟩ = w.cell? ⟨g, i, none⟩ := by
  intro vs
  induction vs with
  | nil => intro w g i j h; rfl
  | cons v vs ih =>
    intro w g i j h
    show (putAll (w.setCell ⟨g, j, none⟩ v) g (j + 1) vs).cell? _ = _
    rw [ih _ g i (j + 1) (by omega), World.cell?_setCell_other _ _ _ _ (by first | (simp; done) | (simp; omega))]
theorem putAll_frozen : ∀ (vs : List Value) (w : World) (g j : Nat) (p : Addr), (putAll w g j vs).frozen? p = w.frozen? p := by
  intro vs
  induction vs with
  | nil => intro w g j p; rfl
  | cons v vs ih =>
    intro w g j p
    show (putAll (w.setCell ⟨g, j, none⟩ v) g (j + 1) vs).frozen? p = _
    rw [ih]; simp
theorem putAll_far : ∀ (vs : List Value) (w : World) (g j : Nat) (p : Addr), p.block ≠ g → (putAll w g j vs).cell? p = w.cell? p := by
  intro vs
  induction vs with
  | nil => intro w g j p h; rfl
  | cons v vs ih =>
    intro w g j p h
    show (putAll (w.setCell ⟨g, j, none⟩ v) g (j + 1) vs).cell? p = _
    rw [ih _ g _ p h]
    exact World.cell?_setCell_other _ _ _ _ (by intro e; subst e; exact h rfl)
theorem putAll_at : ∀ (vs us : List Value) (w : World) (g j : Nat), us.length = vs.length → (∀ i u, us[i]? = some u → w.cell? ⟨g, j + i, none⟩ = some u) → ∀ i v, vs[i]? = some v → (putAll w g j vs).cell? ⟨g, j + i, none⟩ = some v := by
  intro vs
  induction vs with
  | nil => intro us w g j hl h i v hv; simp at hv
  | cons x vs ih =>
    intro us w g j hl h i v hv
    cases us with
    | nil => simp at hl
    | cons u us =>
      show (putAll (w.setCell ⟨g, j, none⟩ x) g (j + 1) vs).cell? _ = _
      cases i with
      | zero =>
        rw [Nat.add_zero, putAll_lo _ _ _ _ _ (by omega)]
        simp at hv
        subst hv
        exact World.cell?_setCell_same _ _ _ (h 0 u rfl)
      | succ i =>
        rw [show j + (i + 1) = j + 1 + i by omega]
        refine ih us _ g (j + 1) (by simpa using hl) ?_ i v (by simpa using hv)
        intro k y hy
        rw [World.cell?_setCell_other _ _ _ _ (by first | (simp; done) | (simp; omega)), show j + 1 + k = j + (k + 1) by omega]
        exact h (k + 1) y (by simpa using hy)
theorem Box.store {w : World} {g : Nat} {us : List Value} (h : Box w g us) (vs : List Value) (hl : us.length = vs.length) : Box (putAll w g 0 vs) g vs := by
  intro j v hv
  have h1 := putAll_at vs us w g 0 hl (fun i u hu => by rw [Nat.zero_add]; exact (h i u hu).1) j v hv
  rw [Nat.zero_add] at h1
  refine ⟨h1, ?_⟩
  rw [putAll_frozen]
  have hj : j < us.length := by
    rw [hl]
    rcases Nat.lt_or_ge j vs.length with h2 | h2
    · exact h2
    · rw [List.getElem?_eq_none h2] at hv; cases hv
  exact (h j us[j] (List.getElem?_eq_getElem hj)).2
theorem Box.other {w : World} {g g' : Nat} {us : List Value} (h : Box w g us) (hne : g ≠ g') (vs : List Value) : Box (putAll w g' 0 vs) g us := fun j v hv =>
  ⟨(putAll_far vs w g' 0 ⟨g, j, none⟩ hne).trans (h j v hv).1, (putAll_frozen vs w g' 0 _).trans (h j v hv).2⟩
theorem below_putAll : ∀ (vs : List Value) {A W : World} {g : Nat} (j : Nat) (h : Below A.heap.size A W) (hg : A.heap.size ≤ g), Below A.heap.size A (putAll W g j vs) := by
  intro vs
  induction vs with
  | nil => intro A W g j h hg; exact h
  | cons v vs ih => intro A W g j h hg; exact ih (j + 1) (h.setCell (p := ⟨g, j, none⟩) hg v) hg
theorem cell_putAll {w : World} {g : Nat} (vs : List Value) {p : Addr} (h : p.block ≠ g) : (putAll w g 0 vs).cell? p = w.cell? p := putAll_far vs w g 0 p h
theorem below_alloc2 {A W : World} {o : Obj} (h : Below A.heap.size A W) : Below A.heap.size A (W.alloc o) := h.alloc h.size _
/-- A region that ends as told, whatever the order: what it has left in a new block is all that is asked on. -/
theorem wp_mid1 {P : Program} {c : Code} {Q : Exit → Act → World → Prop} {A : Act} {w : World} (F : Nat → World → Prop) (upd : Act → Nat → Act)
    (h1 : c.wp P (fun e a' w' => e = .normal ∧ ∃ g1, a' = upd A g1 ∧ F g1 w') A w) (h2 : ∀ g1 w', F g1 w' → Q .normal (upd A g1) w') : c.wp P Q A w :=
  Code.wp_mono (fun e a' w' ⟨he, g1, ha, hf⟩ => by subst he ha; exact h2 g1 w' hf) h1
theorem wp_mid {β : Type} {P : Program} {c : Code} {Q : Exit → Act → World → Prop} {A : Act} {w : World} (F : β → World → Prop) (upd : Act → β → Act)
    (h1 : c.wp P (fun e a' w' => e = .normal ∧ ∃ b, a' = upd A b ∧ F b w') A w) (h2 : ∀ b w', F b w' → Q .normal (upd A b) w') : c.wp P Q A w :=
  Code.wp_mono (fun e a' w' ⟨he, b, ha, hf⟩ => by subst he ha; exact h2 b w' hf) h1
end Go.Proofs.Ytmlbphmbffkdnaa
