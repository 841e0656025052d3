/-
  The draws of two heads, and of two heads and a proof.
-/
import Derived.Test.YtmlbphmbffkdnaaL21h
import Derived.Test.YtmlbphmbffkdnaaLogc
namespace Go.Proofs.Ytmlbphmbffkdnaa
open Go.RowKit
set_option linter.unusedVariables false
set_option maxRecDepth 100000

/-- two heads, drawn of a code -/
def HeadsD (w : World) (e : Ending) (w' : World) : Prop :=
  ∃ a b c a' b' c' : Int, e = .returned (.tuple #[hedV a b c, hedV a' b' c']) ∧ Below w.heap.size w w'

end Go.Proofs.Ytmlbphmbffkdnaa
