/-
  The walk of the law FnTreCheck: at every code it answers true, and nothing that was there is written.
-/
import Derived.Test.YtimaidcjccakeaaDrawe
namespace Go.Proofs.Ytimaidcjccakeaa
open Go.RowKit
set_option linter.unusedVariables false

theorem up_mixed {n i leaf y : Int} {ps : List Int} (h : Tm.treUp n i leaf ps = some y) : 0 ≤ y ∧ y < 65521 := by
  by_cases hc : 1 ≤ n ∧ n ≤ 40 ∧ 0 ≤ i ∧ i < n ∧ Tm.okB leaf = true ∧ Tm.treOk ps = true
  · rw [treUp_of hc] at h
    exact (Tm.okB_iff _).1 (Tm.up_ok hc.2.2.2.2.1 ps _ _ _ h)
  · rw [treUp_no hc] at h; cases h

end Go.Proofs.Ytimaidcjccakeaa
