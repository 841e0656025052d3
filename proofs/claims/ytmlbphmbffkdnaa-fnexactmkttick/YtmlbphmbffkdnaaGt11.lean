/-
  Texts of the proof, what it needs of them: Side.
-/
import Derived.Deep.RegionWith
import Derived.LoopIn
import Derived.LoopNIn
import Derived.Maps.AppendAt
import Derived.OwnWalkIn
import Derived.RangeFuncBox
import Derived.RangeFuncLeaves
import Derived.Shelf.Abstract
import Derived.TacticsInMore
import Derived.Test.YtmlbphmbffkdnaaGt10
namespace Go.Proofs.Ytmlbphmbffkdnaa
open Go.RowKit Go.Shelf
set_option linter.unusedVariables false

/-- what lies below block n₀, but for block D, is as it was -/
structure Kb (n₀ D : Nat) (w w' : World) : Prop where
  size : w.heap.size ≤ w'.heap.size
  block : ∀ k, k < n₀ → k ≠ D → w'.heap[k]? = w.heap[k]?
theorem Kb.refl (n₀ D : Nat) (w : World) : Kb n₀ D w w := ⟨Nat.le_refl _, fun _ _ _ => rfl⟩
theorem Kb.trans {n₀ D : Nat} {a b c : World} (h : Kb n₀ D a b) (k : Kb n₀ D b c) : Kb n₀ D a c := ⟨Nat.le_trans h.size k.size, fun i hi hd => (k.block i hi hd).trans (h.block i hi hd)⟩
theorem Kb.of {n₀ D : Nat} {a b : World} (h : Below n₀ a b) : Kb n₀ D a b := ⟨h.size, fun i hi _ => h.block i hi⟩
theorem Kb.cell {n₀ D : Nat} {w w' : World} (h : Kb n₀ D w w') {p : Addr} (hp : p.block < n₀) (hd : p.block ≠ D) : w'.cell? p = w.cell? p := World.cell?_of_block (w := w) (h.block p.block hp hd)

/-- a tree in memory that lies below block n₀, and not in block D -/
def TreeLo (n₀ D : Nat) : Nat → World → Nat → List Int → Prop
  | 0, _, _, _ => False
  | f + 1, w, p, l => (p < n₀ ∧ p ≠ D) ∧ w.cell? ⟨p, 0, none⟩ = some (.int .i64 (Tm.root l)) ∧ w.cell? ⟨p, 1, none⟩ = some (.int .i64 l.length) ∧
      (2 ≤ l.length → ∃ pl pr, w.cell? ⟨p, 2, none⟩ = some (.pointer (some ⟨pl, 0, none⟩)) ∧ w.cell? ⟨p, 3, none⟩ = some (.pointer (some ⟨pr, 0, none⟩)) ∧ TreeLo n₀ D f w pl (l.take (Tm.sp l)) ∧ TreeLo n₀ D f w pr (l.drop (Tm.sp l)))
theorem box_one {W : World} {B : Nat} {t : TypeId} {v : Value} (h : Boxed W B t v) : W.cell? ⟨B, 1, none⟩ = none := by
  simp [World.cell?, show W.heap[B]? = _ from h]
theorem TreeLo.of {w : World} {D : Nat} {t : TypeId} {v : Value} (hD : Boxed w D t v) : ∀ (f p : Nat) (l : List Int), TreeAt f w p l → TreeLo w.heap.size D f w p l := by
  intro f
  induction f with
  | zero => intro p l h; exact h
  | succ f ih =>
    intro p l h
    obtain ⟨h0, h1, h2⟩ := h
    refine ⟨⟨World.block_lt_of_cell? w _ h0, ?_⟩, h0, h1, fun hl => ?_⟩
    · intro e
      rw [e, box_one hD] at h1
      cases h1
    · obtain ⟨pl, pr, h3, h4, h5, h6⟩ := h2 hl
      exact ⟨pl, pr, h3, h4, ih _ _ h5, ih _ _ h6⟩
theorem TreeLo.mono {n₀ n₁ D : Nat} {w : World} (hn : n₀ ≤ n₁) : ∀ (f p : Nat) (l : List Int), TreeLo n₀ D f w p l → TreeLo n₁ D f w p l := by
  intro f
  induction f with
  | zero => intro p l h; exact h
  | succ f ih =>
    intro p l h
    obtain ⟨h, h0, h1, h2⟩ := h
    refine ⟨⟨Nat.lt_of_lt_of_le h.1 hn, h.2⟩, h0, h1, fun hl => ?_⟩
    obtain ⟨pl, pr, h3, h4, h5, h6⟩ := h2 hl
    exact ⟨pl, pr, h3, h4, ih _ _ h5, ih _ _ h6⟩
theorem TreeLo.below {n₀ D : Nat} {w w' : World} (hb : Kb n₀ D w w') : ∀ (f p : Nat) (l : List Int), TreeLo n₀ D f w p l → TreeLo n₀ D f w' p l := by
  intro f
  induction f with
  | zero => intro p l h; exact h
  | succ f ih =>
    intro p l h
    obtain ⟨h, h0, h1, h2⟩ := h
    refine ⟨h, (hb.cell (p := ⟨p, 0, none⟩) h.1 h.2).trans h0, (hb.cell (p := ⟨p, 1, none⟩) h.1 h.2).trans h1, fun hl => ?_⟩
    obtain ⟨pl, pr, h3, h4, h5, h6⟩ := h2 hl
    exact ⟨pl, pr, (hb.cell (p := ⟨p, 2, none⟩) h.1 h.2).trans h3, (hb.cell (p := ⟨p, 3, none⟩) h.1 h.2).trans h4, ih _ _ h5, ih _ _ h6⟩
theorem TreeLo.root {n₀ D f : Nat} {w : World} {p : Nat} {l : List Int} (h : TreeLo n₀ D f w p l) : p < n₀ ∧ w.cell? ⟨p, 0, none⟩ = some (.int .i64 (Tm.root l)) := by
  cases f with
  | zero => exact h.elim
  | succ f => exact ⟨h.1.1, h.2.1⟩

attribute [local go_sem] Oper.semAt_some

end Go.Proofs.Ytmlbphmbffkdnaa
namespace Go.Proofs.Ytmlbphmbffkdnaa
open Go.RowKit Go.Shelf
set_option linter.unusedVariables false
attribute [local go_sem] Oper.semAt_some

end Go.Proofs.Ytmlbphmbffkdnaa
namespace Go.Proofs.Ytmlbphmbffkdnaa
open Go.RowKit
set_option linter.unusedVariables false

theorem Told.row {w w' : World} {zs : List Int} {v : Value} (h : Own w' w.heap.size v zs) : ∃ ao cap, v = .slice ao zs.length cap ∧ zs.length ≤ cap ∧ Row w' ao zs := by
  obtain ⟨ao, cap, h1, h2, h3, _⟩ := h.row
  exact ⟨ao, cap, h1, h2, h3⟩
end Go.Proofs.Ytmlbphmbffkdnaa
namespace Go.Proofs.Ytmlbphmbffkdnaa
open Go.RowKit
set_option linter.unusedVariables false

/-- the marks 1, 2, 3 .. of a list, the first so many; behind them what was there -/
def marked (zs : List Int) (k : Nat) : List Int := (List.range k).map (fun j => ((j + 1 : Nat) : Int)) ++ zs.drop k
end Go.Proofs.Ytmlbphmbffkdnaa
