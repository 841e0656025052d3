/-
  The walk of the law FnHedOf: at every code it answers true, and nothing that was there is written.
-/
import Derived.Test.YtmlbphmbffkdnaaDrg
import Derived.Test.YtmlbphmbffkdnaaHedb
import Derived.Test.YtmlbphmbffkdnaaHede
import Derived.Test.YtmlbphmbffkdnaaLogc
namespace Go.Proofs.Ytmlbphmbffkdnaa
open Go.RowKit
set_option linter.unusedVariables false
set_option maxRecDepth 100000

theorem okB_ml (zs : List Int) (h : Tm.treOk zs = true) : Tm.okB (Tm.treRoot zs) = true := by
  obtain ⟨h1, h2⟩ := treOk_len h
  rw [treRoot_of h1 h2]
  exact Tm.root_ok _ zs (Nat.le_refl _) h1 h2
theorem hedOk_of {es : List Tm.Ent} (h : foldIs es = true) : hedOk (hS es) (hL es) (hO es) = true := by
  obtain ⟨u0, u1, u2⟩ := hed_yes h
  have h40 := foldIs_len h
  have h3 : Tm.ownOk (foldRows es) = true := by
    unfold foldIs at h
    rw [Option.isSome_iff_exists] at h
    obtain ⟨r, hr⟩ := h
    rw [(fold_some hr).1]
    exact ownFold_ok hr
  rw [u0, u1, u2]
  unfold hedOk
  rw [okB_ml _ (entLeaves_treOk h40), ownRoot_of h3, okB_ml _ (leavesR_tre h3), decide_eq_true (show 0 ≤ (es.length : Int) ∧ (es.length : Int) ≤ 40 by omega)]
  rfl

end Go.Proofs.Ytmlbphmbffkdnaa
