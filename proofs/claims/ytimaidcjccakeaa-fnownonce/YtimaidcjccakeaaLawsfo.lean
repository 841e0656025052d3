/-
  The walk of the law FnOwnFold: at every code it answers true, and nothing that was there is written.
-/
import Derived.Test.YtimaidcjccakeaaLogc
namespace Go.Proofs.Ytimaidcjccakeaa
open Go.RowKit
set_option linter.unusedVariables false
set_option maxRecDepth 100000

theorem ownFold_take {es : List Tm.Ent} {rs : List Tm.Rw} (h : Tm.ownFold es = some rs) (k : Nat) : foldIs (es.take k) = true := by
  have h40 : es.length ≤ 40 := by
    rcases Nat.lt_or_ge 40 es.length with h2 | h2
    · rw [ownFold_long (by omega)] at h; cases h
    · exact h2
  rw [ownFold_of h40] at h
  obtain ⟨r1, h1⟩ := Tm.foldE_take es k _ _ h
  have h2 : Tm.ownFold (es.take k) = some r1 := by rw [ownFold_of (by rw [List.length_take]; omega)]; exact h1
  exact (fold_some h2).2
theorem foldIs_nil : foldIs [] = true ∧ foldRows [] = Tm.none8 := by decide
/-- how far the law's own fold has come: the rows behind the first so many, or one that may not follow -/
def Far (es : List Tm.Ent) (k : Nat) (rs : List Tm.Rw) (b : Bool) : Prop :=
  (b = true ∧ es.length ≤ 40 ∧ Tm.foldE (es.take k) Tm.none8 = some rs ∧ Tm.ownOk rs = true) ∨ (b = false ∧ Tm.ownFold es = none)
theorem ERow.take {w : World} {ao : Option Addr} {es : List Tm.Ent} (h : ERow w ao es) (k : Nat) : ERow w ao (es.take k) := by
  refine ⟨fun e he => h.1 e (List.mem_of_mem_take he), fun hne => ?_⟩
  obtain ⟨b, off, rfl, hc⟩ := h.2 (by intro e; subst e; simp at hne)
  refine ⟨b, off, rfl, fun j v hv => hc j v ?_⟩
  have := flat_part es (es.take k) 0 k (by rw [List.drop_zero]) j v hv
  simpa using this

end Go.Proofs.Ytimaidcjccakeaa
