/-
  Texts of the proof, what it needs of them: Dlof.
-/
import Derived.Test.YtmlbphmbffkdnaaGt15
import Derived.Test.YtmlbphmbffkdnaaGt27
import Derived.Test.YtmlbphmbffkdnaaGt28
namespace Go.Proofs.Ytmlbphmbffkdnaa
open Go.RowKit
set_option linter.unusedVariables false
set_option maxRecDepth 100000

theorem atDD {xs : List Tm.Deal} {k : Nat} (h : k < xs.length) : ∃ x, xs[k]? = some x := ⟨xs[k], List.getElem?_eq_getElem h⟩
theorem d_drop {hs : List Tm.Deal} {k : Nat} {x : Tm.Deal} (h : hs[k]? = some x) : hs.drop k = x :: hs.drop (k + 1) := by
  obtain ⟨hl, rfl⟩ := List.getElem?_eq_some_iff.1 h
  rw [List.drop_eq_getElem_cons hl]
end Go.Proofs.Ytmlbphmbffkdnaa
