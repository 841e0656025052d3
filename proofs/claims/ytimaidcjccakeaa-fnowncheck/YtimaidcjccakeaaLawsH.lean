/-
  The walk of the law FnExactTreProof: at every argument it answers true, and nothing that was there is written.
-/
import Derived.Test.YtimaidcjccakeaaSide
namespace Go.Proofs.Ytimaidcjccakeaa
open Go.RowKit
set_option linter.unusedVariables false

theorem Row.keptN {w w' : World} {ao : Option Addr} {zs : List Int} {row : Option Nat} (h : Row w ao zs) (hg : w.grownBy w' row) (hne : zs ≠ [] → ∀ a, ao = some a → some a.block ≠ row) : Row w' ao zs := by
  refine ⟨h.1, fun hne' => ?_⟩
  obtain ⟨b, off, rfl, hc⟩ := h.2 hne'
  exact ⟨b, off, rfl, fun k hk => hg.cell (hc k hk) (hne hne' ⟨b, off, none⟩ rfl)⟩
theorem Row.lt {w : World} {ao : Option Addr} {zs : List Int} (h : Row w ao zs) (hz : zs ≠ []) : ∀ a, ao = some a → a.block < w.heap.size := by
  intro a ha
  obtain ⟨b, off, rfl, hc⟩ := h.2 hz
  cases ha
  exact World.block_lt_of_cell? w _ (hc 0 (by cases zs; exact absurd rfl hz; simp))
/-- a list that is told back, with where it lies -/
theorem told_all {w w' : World} {zs : List Int} {v : Value} (h : Own w' w.heap.size v zs) : ∃ ao cap, v = .slice ao zs.length cap ∧ zs.length ≤ cap ∧ Row w' ao zs ∧ (∀ a, ao = some a → w.heap.size ≤ a.block ∧ a.block < w'.heap.size) := h.row
theorem own_block_of {ao : Option Addr} {n cap : Nat} {b : Nat} (h : (Value.slice ao n cap).ownBlock = some b) : ∃ a, ao = some a ∧ a.block = b := by
  cases ao with
  | none => simp [Value.ownBlock] at h
  | some a => exact ⟨a, rfl, by simpa [Value.ownBlock] using h⟩

end Go.Proofs.Ytimaidcjccakeaa
