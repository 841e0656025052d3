/-
  Texts of the proof, what it needs of them: Lste.
-/
import Derived.Test.YtmlbphmbffkdnaaGw05
import Derived.Test.YtmlbphmbffkdnaaGw08
namespace Go.Proofs.Ytmlbphmbffkdnaa
open Go.RowKit
set_option linter.unusedVariables false
set_option maxRecDepth 100000
/-- the mark of an element -/
def mkE (j : Nat) : Tm.Ent := (4 * (j : Int) + 1, 4 * (j : Int) + 2, 4 * (j : Int) + 3, 4 * (j : Int) + 4)
end Go.Proofs.Ytmlbphmbffkdnaa
namespace Go.Proofs.Ytmlbphmbffkdnaa
open Go.RowKit
set_option linter.unusedVariables false
set_option maxRecDepth 100000

/-- a row as a value -/
abbrev rowV (x0 x1 : Int) (x2 : Bool) : Value := .agg #[.int .i64 x0, .int .i64 x1, .bool x2]
set_option maxHeartbeats 400000 in
theorem c96 (x0 x1 : Int) (x2 : Bool) (w : World) : Calls Try.prog 96 #[rowV x0 x1 x2] w fun e w' => e = .returned (rowV x0 x1 x2) ∧ Below w.heap.size w w' := by
  go_enter Try.func96, Try.ntmps96
  go_wp2_with fail
  exact bodyPost_ret (v := rowV x0 x1 x2) (by simp [results, Try.results96, go_sem]) rfl ⟨rfl, below_al (below_al (below_a _))⟩

/-- the mark of an element -/
def mkR (j : Nat) : Tm.Rw := (3 * (j : Int) + 1, 3 * (j : Int) + 1 + 1, (3 * (j : Int) + 1 + 1 + 1) % 3 == 0)
end Go.Proofs.Ytmlbphmbffkdnaa
