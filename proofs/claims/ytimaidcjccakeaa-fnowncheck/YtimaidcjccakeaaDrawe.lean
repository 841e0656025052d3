/-
  The walks of the model's draws of what is checked and of what is told upwards: DrawTreCheck, DrawTreUp.
-/
import Derived.Test.YtimaidcjccakeaaShown
namespace Go.Proofs.Ytimaidcjccakeaa
open Go.RowKit
set_option linter.unusedVariables false

theorem St.drewN {w0 W : World} {r k : Nat} {v pv : Value} {zs ps : List Int} (h : St w0 W r k v zs pv ps) (q : Nat) : St w0 (W.drewN q) r k v zs pv ps :=
  h.step (grown_drewN (grown_refl _ _) q) (h.2.2.2.1.drewN q)

def Asked (w : World) (e : Ending) (w' : World) : Prop :=
  ∃ (root n i x : Int) (pv : Value) (qs : List Int), e = .returned (.tuple #[.int .i64 root, .int .i64 n, .int .i64 i, .int .i64 x, pv]) ∧ Own w' w.heap.size pv qs ∧ qs.length ≤ 7 ∧ Below w.heap.size w w'

end Go.Proofs.Ytimaidcjccakeaa
