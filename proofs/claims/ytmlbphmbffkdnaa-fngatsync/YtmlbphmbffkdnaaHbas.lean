/-
  What every walk of heads leans on.
-/
import Derived.Laws.StructEq
import Derived.WideKeyRuns
import Derived.Test.YtmlbphmbffkdnaaOwnf
namespace Go.Proofs.Ytmlbphmbffkdnaa
open Go.RowKit
set_option linter.unusedVariables false
set_option maxRecDepth 100000

theorem Box.bel {W w : World} {g : Nat} {vs : List Value} (h : Box W g vs) (hb : Below W.heap.size W w) : Box w g vs := h.below hb
theorem dnB {P : Program} {f : FuncId} {ar : Array Value} {w : World} {A : Ending → Prop} (h : Calls P f ar w fun e w' => A e ∧ ∃ q, w' = w.drewN q) : Calls P f ar w fun e w' => A e ∧ Below w.heap.size w w' :=
  h.mono fun e w' h2 => ⟨h2.1, by obtain ⟨q, rfl⟩ := h2.2; exact below_dn (Below.refl _ _) q⟩
end Go.Proofs.Ytmlbphmbffkdnaa
