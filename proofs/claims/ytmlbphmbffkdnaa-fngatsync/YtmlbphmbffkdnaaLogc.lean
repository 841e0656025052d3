/-
  The draws of entries: of a code alone.
-/
import Derived.Test.YtmlbphmbffkdnaaLogb
namespace Go.Proofs.Ytmlbphmbffkdnaa
open Go.RowKit
set_option linter.unusedVariables false
set_option maxRecDepth 100000

theorem EOwn.mono {w : World} {b b' : Nat} {v : Value} {es : List Tm.Ent} (h : EOwn w b' v es) (hb : b ≤ b') : EOwn w b v es := ⟨h.1, owns_mono h.2 hb⟩
/-- what a draw of entries leaves, of a code alone -/
def LogsD (w : World) (e : Ending) (w' : World) : Prop :=
  ∃ (v : Value) (es : List Tm.Ent), e = .returned v ∧ es.length ≤ 41 ∧ EOwn w' w.heap.size v es ∧ Below w.heap.size w w'
/-- entries, and a number -/
def LogsN (w : World) (e : Ending) (w' : World) : Prop :=
  ∃ (v : Value) (es : List Tm.Ent) (t : Int), e = .returned (.tuple #[v, .int .i64 t]) ∧ es.length ≤ 41 ∧ (-1 ≤ t ∧ t ≤ 100) ∧ EOwn w' w.heap.size v es ∧ Below w.heap.size w w'

end Go.Proofs.Ytmlbphmbffkdnaa
