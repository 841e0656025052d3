/-
  The walks of the laws FnMixLeaf and FnTreOk: at every code they answer true, and nothing that was there is written.
-/
import Derived.Test.YtjdnengmllamcaaDrawd
namespace Go.Proofs.Ytjdnengmllamcaa
open Go.RowKit

theorem Row.nil (w : World) (ao : Option Addr) : Row w ao [] := ⟨fun z hz => by simp at hz, fun h => absurd rfl h⟩
theorem okAll_take (zs : List Int) (k : Nat) (h : k < zs.length) : Tm.okAll (zs.take (k + 1)) = (Tm.okAll (zs.take k) && Tm.okB (zs.getD k 0)) := by
  rw [Tm.take_snoc zs k h]; simp [Tm.okAll]

/-- the last number, one more or one less -/
def bent (x : Int) : Int := if 0 < x then x - 1 else x + 1
theorem leaf_bent (ys : List Int) (k : Nat) (h : ys.length = k + 1) : (Tm.leaf (ys.set k (bent (ys.getD k 0))) != Tm.leaf ys) = true := by
  have e1 : ys = ys.take k ++ [ys.getD k 0] := by
    rw [← Tm.take_snoc ys k (by omega), ← h, List.take_length]
  have e2 : ys.set k (bent (ys.getD k 0)) = ys.take k ++ [bent (ys.getD k 0)] := by
    rw [List.set_eq_take_append_cons_drop, if_pos (by omega), List.drop_of_length_le (by omega)]
  have e3 : Tm.leaf ys = Tm.leaf (ys.take k ++ [ys.getD k 0]) := congrArg Tm.leaf e1
  rw [bne_iff_ne, e2, e3]
  exact Tm.leaf_last (ys.take k) (ys.getD k 0) (bent (ys.getD k 0)) (by unfold bent; split <;> omega)

end Go.Proofs.Ytjdnengmllamcaa
