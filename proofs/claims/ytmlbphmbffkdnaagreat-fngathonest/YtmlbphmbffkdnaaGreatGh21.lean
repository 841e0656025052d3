/-
  Texts of the proof, what it needs of them: Growb.
-/
import Derived.Test.YtmlbphmbffkdnaaGreatGh07
import Derived.Test.YtmlbphmbffkdnaaGreatGh12
namespace Go.Proofs.YtmlbphmbffkdnaaGreat
open Go.RowKit
set_option linter.unusedVariables false

/-- the program's answer: both roots are told only where the proof leads to them -/
def BothImpl (m n old : Int) (ps : List Int) (al : Bool) (w : World) (e : Ending) (w' : World) : Prop :=
  ∃ a b : Int, e = .returned (.tuple #[.agg #[.int .i64 a, .int .i64 b], .bool (Tm.both m n old ps al).isSome]) ∧ (∀ x, Tm.both m n old ps al = some x → a = x.1 ∧ b = x.2) ∧ Below w.heap.size w w'

end Go.Proofs.YtmlbphmbffkdnaaGreat
