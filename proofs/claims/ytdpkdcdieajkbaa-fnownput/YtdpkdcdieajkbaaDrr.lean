/-
  The draws of rows, and of rows and a number.
-/
import Derived.Test.YtdpkdcdieajkbaaL20r
import Derived.Test.YtdpkdcdieajkbaaDrg
namespace Go.Proofs.Ytdpkdcdieajkbaa
open Go.RowKit
set_option linter.unusedVariables false
set_option maxRecDepth 100000

/-- rows and a number, drawn of a code -/
def RowsN (w : World) (e : Ending) (w' : World) : Prop :=
  ∃ (ar : Option Addr) (n cap : Nat) (rs : List Tm.Rw) (t : Int), e = .returned (.tuple #[.slice ar n cap, .int .i64 t]) ∧ rs.length = n ∧ n ≤ 8 ∧ n ≤ cap ∧ (-1 ≤ t ∧ t ≤ 10) ∧ RRow w' ar rs ∧ Below w.heap.size w w'
/-- rows, drawn of a code -/
def RowsO (w : World) (e : Ending) (w' : World) : Prop :=
  ∃ (ar : Option Addr) (n cap : Nat) (rs : List Tm.Rw), e = .returned (.slice ar n cap) ∧ rs.length = n ∧ n ≤ 8 ∧ n ≤ cap ∧ RRow w' ar rs ∧ Below w.heap.size w w'

end Go.Proofs.Ytdpkdcdieajkbaa
