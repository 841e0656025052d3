/-
  The draw of two heads and a proof.
-/
import Derived.Test.YtmlbphmbffkdnaaL21h
import Derived.Test.YtmlbphmbffkdnaaLogc
namespace Go.Proofs.Ytmlbphmbffkdnaa
open Go.RowKit
set_option linter.unusedVariables false
set_option maxRecDepth 100000

/-- two heads and a proof, drawn of a code -/
def HeadsP (w : World) (e : Ending) (w' : World) : Prop :=
  ∃ (a b c a' b' c' : Int) (ps : List Int) (ap : Option Addr) (n cap : Nat), e = .returned (.tuple #[hedV a b c, hedV a' b' c', .slice ap n cap]) ∧ ps.length = n ∧ n ≤ cap ∧ n ≤ 7 ∧ Row w' ap ps ∧ Below w.heap.size w w'

end Go.Proofs.Ytmlbphmbffkdnaa
