/-
  Texts of the proof, what it needs of them: Roots.
-/
import Derived.Deep.AppendLies
import Derived.Test.YtmlbphmbffkdnaaGt08
namespace Go.Proofs.Ytmlbphmbffkdnaa
open Go.RowKit
set_option linter.unusedVariables false

end Go.Proofs.Ytmlbphmbffkdnaa
namespace Go.Proofs.Ytmlbphmbffkdnaa
open Go.RowKit
set_option linter.unusedVariables false

/-- A tree of leaves in memory, as the program builds it: its root, how many leaves, and, of two or more, both parts. -/
def TreeAt : Nat → World → Nat → List Int → Prop
  | 0, _, _, _ => False
  | f + 1, w, p, l => w.cell? ⟨p, 0, none⟩ = some (.int .i64 (Tm.root l)) ∧ w.cell? ⟨p, 1, none⟩ = some (.int .i64 l.length) ∧
      (2 ≤ l.length → ∃ pl pr, w.cell? ⟨p, 2, none⟩ = some (.pointer (some ⟨pl, 0, none⟩)) ∧ w.cell? ⟨p, 3, none⟩ = some (.pointer (some ⟨pr, 0, none⟩)) ∧ TreeAt f w pl (l.take (Tm.sp l)) ∧ TreeAt f w pr (l.drop (Tm.sp l)))
theorem TreeAt.below {w w' : World} (hb : Below w.heap.size w w') : ∀ (f p : Nat) (l : List Int), TreeAt f w p l → TreeAt f w' p l := by
  intro f
  induction f with
  | zero => intro p l h; exact h
  | succ f ih =>
    intro p l h
    obtain ⟨h0, h1, h2⟩ := h
    refine ⟨cell_below hb h0, cell_below hb h1, fun hl => ?_⟩
    obtain ⟨pl, pr, h3, h4, h5, h6⟩ := h2 hl
    exact ⟨pl, pr, cell_below hb h3, cell_below hb h4, ih _ _ h5, ih _ _ h6⟩
theorem TreeAt.root {f : Nat} {w : World} {p : Nat} {l : List Int} (h : TreeAt f w p l) : w.cell? ⟨p, 0, none⟩ = some (.int .i64 (Tm.root l)) := by
  cases f with
  | zero => exact h.elim
  | succ f => exact h.1
theorem TreeAt.drew {w : World} {f p : Nat} {l : List Int} (h : TreeAt f w p l) : TreeAt f w.drew p l := h.below (below_drew w) f p l

end Go.Proofs.Ytmlbphmbffkdnaa
namespace Go.Proofs.Ytmlbphmbffkdnaa
open Go.RowKit
set_option linter.unusedVariables false

end Go.Proofs.Ytmlbphmbffkdnaa
namespace Go.Proofs.Ytmlbphmbffkdnaa
open Go.RowKit
set_option linter.unusedVariables false

theorem grown_of_below {w w' : World} (h : Below w.heap.size w w') : w.grownBy w' none := ⟨h.os, h.tape, h.output, h.size, fun k hk _ => h.block k hk⟩
theorem Own.below {w w' : World} {base : Nat} {v : Value} {zs : List Int} (h : Own w base v zs) (hb : Below w.heap.size w w') : Own w' base v zs := by
  refine ⟨h.1, h.2.kept (grown_of_below hb) ?_⟩
  cases hv : v.ownBlock with
  | none => exact Or.inl rfl
  | some b => exact Or.inr (by simp)
theorem wrap_sub {x : Int} (h1 : -9223372036854775808 ≤ x) (h2 : x ≤ 9223372036854775807) : IntKind.i64.wrap x = x := by
  simp [IntKind.wrap, IntKind.bits, IntKind.signed]; omega
/-- a new list that is told back: it lies in memory of the call's own -/
def Told (w : World) (zs : List Int) (e : Ending) (w' : World) : Prop := ∃ v, e = .returned v ∧ Own w' w.heap.size v zs ∧ Below w.heap.size w w'

end Go.Proofs.Ytmlbphmbffkdnaa
namespace Go.Proofs.Ytmlbphmbffkdnaa
open Go.RowKit
set_option linter.unusedVariables false

/-- A block that holds these values, each of which may be written. -/
def Box (w : World) (g : Nat) (vs : List Value) : Prop := ∀ j v, vs[j]? = some v → w.cell? ⟨g, j, none⟩ = some v ∧ w.frozen? ⟨g, j, none⟩ = false
theorem Box.cell {w : World} {g : Nat} {vs : List Value} (h : Box w g vs) (j : Nat) {v : Value} (hv : vs[j]? = some v) : w.cell? ⟨g, j, none⟩ = some v := (h j v hv).1
theorem Box.frozen {w : World} {g : Nat} {vs : List Value} (h : Box w g vs) (j : Nat) {v : Value} (hv : vs[j]? = some v) : w.frozen? ⟨g, j, none⟩ = false := (h j v hv).2
theorem Box.lt {w : World} {g : Nat} {v : Value} {vs : List Value} (h : Box w g (v :: vs)) : g < w.heap.size := World.block_lt_of_cell? w _ (h 0 v rfl).1
theorem Box.below {W w : World} {g : Nat} {vs : List Value} (h : Box W g vs) (hb : Below W.heap.size W w) : Box w g vs := fun j v hv =>
  have hc := (h j v hv).1
  ⟨cell_below hb hc, (hb.frozen (p := ⟨g, j, none⟩) (World.block_lt_of_cell? W _ hc)).trans (h j v hv).2⟩
theorem Box.alloc {W : World} {g : Nat} {vs : List Value} (h : Box W g vs) (o : Obj) : Box (W.alloc o) g vs := h.below ((Below.refl _ _).alloc (Nat.le_refl _) _)
theorem Box.drew {W : World} {g : Nat} {vs : List Value} (h : Box W g vs) : Box W.drew g vs := h.below (below_drew W)
theorem box_new (W : World) (vs : List Value) (t : Nat) (h1 : ∀ v ∈ vs, v.oneCell' = true) : Box (W.alloc (.cells vs.toArray t)) W.heap.size vs := by
  intro j v hv
  refine ⟨?_, by simp⟩
  rw [World.cell?_alloc_new]
  simpa using hv
/-- the cells of a block, written one behind the other -/
def putAll (w : World) (g : Nat) : Nat → List Value → World
  | _, [] => w
  | j, v :: vs => putAll (w.setCell ⟨g, j, none⟩ v) g (j + 1) vs
theorem putAll_lo : ∀ (vs : List Value) (w : World) (g i j : Nat), i < j → (putAll w g j vs).cell? ⟨g, i, none⟩ = w.cell? ⟨g, i, none⟩ := by
  intro vs
  induction vs with
  | nil => intro w g i j h; rfl
  | cons v vs ih =>
    intro w g i j h
    show (putAll (w.setCell ⟨g, j, none⟩ v) g (j + 1) vs).cell? _ = _
    rw [ih _ g i (j + 1) (by omega), World.cell?_setCell_other _ _ _ _ (by first | (simp; done) | (simp; omega))]
theorem putAll_frozen : ∀ (vs : List Value) (w : World) (g j : Nat) (p : Addr), (putAll w g j vs).frozen? p = w.frozen? p := by
  intro vs
  induction vs with
  | nil => intro w g j p; rfl
  | cons v vs ih =>
    intro w g j p
    show (putAll (w.setCell ⟨g, j, none⟩ v) g (j + 1) vs).frozen? p = _
    rw [ih]; simp
theorem putAll_far : ∀ (vs : List Value) (w : World) (g j : Nat) (p : Addr), p.block ≠ g → (putAll w g j vs).cell? p = w.cell? p := by
  intro vs
  induction vs with
  | nil => intro w g j p h; rfl
  | cons v vs ih =>
    intro w g j p h
    show (putAll (w.setCell ⟨g, j, none⟩ v) g (j + 1) vs).cell? p = _
    rw [ih _ g _ p h]
    exact World.cell?_setCell_other _ _ _ _ (by intro e; subst e; exact h rfl)
theorem putAll_at : ∀ (vs us : List Value) (w : World) (g j : Nat), us.length = vs.length → (∀ i u, us[i]? = some u → w.cell? ⟨g, j + i, none⟩ = some u) → ∀ i v, vs[i]? = some v → (putAll w g j vs).cell? ⟨g, j + i, none⟩ = some v := by
  intro vs
  induction vs with
  | nil => intro us w g j hl h i v hv; simp at hv
  | cons x vs ih =>
    intro us w g j hl h i v hv
    cases us with
    | nil => simp at hl
    | cons u us =>
      show (putAll (w.setCell ⟨g, j, none⟩ x) g (j + 1) vs).cell? _ = _
      cases i with
      | zero =>
        rw [Nat.add_zero, putAll_lo _ _ _ _ _ (by omega)]
        simp at hv
        subst hv
        exact World.cell?_setCell_same _ _ _ (h 0 u rfl)
      | succ i =>
        rw [show j + (i + 1) = j + 1 + i by omega]
        refine ih us _ g (j + 1) (by simpa using hl) ?_ i v (by simpa using hv)
        intro k y hy
        rw [World.cell?_setCell_other _ _ _ _ (by first | (simp; done) | (simp; omega)), show j + 1 + k = j + (k + 1) by omega]
        exact h (k + 1) y (by simpa using hy)
theorem Box.store {w : World} {g : Nat} {us : List Value} (h : Box w g us) (vs : List Value) (hl : us.length = vs.length) : Box (putAll w g 0 vs) g vs := by
  intro j v hv
  have h1 := putAll_at vs us w g 0 hl (fun i u hu => by rw [Nat.zero_add]; exact (h i u hu).1) j v hv
  rw [Nat.zero_add] at h1
  refine ⟨h1, ?_⟩
  rw [putAll_frozen]
  have hj : j < us.length := by
    rw [hl]
    rcases Nat.lt_or_ge j vs.length with h2 | h2
    · exact h2
    · rw [List.getElem?_eq_none h2] at hv; cases hv
  exact (h j us[j] (List.getElem?_eq_getElem hj)).2
theorem Box.other {w : World} {g g' : Nat} {us : List Value} (h : Box w g us) (hne : g ≠ g') (vs : List Value) : Box (putAll w g' 0 vs) g us := fun j v hv =>
  ⟨(putAll_far vs w g' 0 ⟨g, j, none⟩ hne).trans (h j v hv).1, (putAll_frozen vs w g' 0 _).trans (h j v hv).2⟩
end Go.Proofs.Ytmlbphmbffkdnaa
