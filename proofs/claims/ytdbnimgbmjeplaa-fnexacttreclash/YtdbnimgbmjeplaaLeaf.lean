/-
  The walks of leaves: MixLeaf of the program and of its model, over whatever list of numbers in memory.
-/
import Derived.Test.YtdbnimgbmjeplaaMix
namespace Go.Proofs.Ytdbnimgbmjeplaa
open Go.RowKit

/-- A slice of ints in memory: where there are elements, it leads to their cells, and each is an int. -/
def Row (w : World) (ao : Option Addr) (zs : List Int) : Prop :=
  (∀ z ∈ zs, -9223372036854775808 ≤ z ∧ z ≤ 9223372036854775807) ∧
  (zs ≠ [] → ∃ b off, ao = some ⟨b, off, none⟩ ∧ ∀ k, k < zs.length → w.cell? ⟨b, off + k, none⟩ = some (.int .i64 (zs.getD k 0)))

theorem tmod_bd (n : Int) : -65521 < n.tmod 65521 ∧ n.tmod 65521 < 65521 := by
  have h1 := Int.tmod_lt_of_pos n (b := 65521) (by omega)
  have h2 := Int.lt_tmod_of_pos n (b := 65521) (by omega)
  omega
theorem tmod_emod_neg (n : Int) (h : n.tmod 65521 < 0) : n.tmod 65521 + 65521 = n % 65521 := by
  have := Int.tmod_eq_emod (a := n) (b := 65521)
  split at this <;> omega
theorem tmod_emod_pos (n : Int) (h : 0 ≤ n.tmod 65521) : n.tmod 65521 = n % 65521 := by
  have := Int.tmod_eq_emod (a := n) (b := 65521)
  split at this <;> omega
theorem tmod_emod (n : Int) : n.tmod 65521 % 65521 = n % 65521 := by
  have := Int.tmod_eq_emod (a := n) (b := 65521)
  split at this <;> omega
theorem tmod_emod_spec (n : Int) : (n.tmod 65521 + 65521) % 65521 = n % 65521 := by
  have := Int.tmod_eq_emod (a := n) (b := 65521)
  split at this <;> omega

theorem leaf_end (zs : List Int) : (Tm.leafTo zs 7 * 31 + (zs.length : Int) % 65521) % 65521 = Tm.leaf zs := by unfold Tm.leaf; omega

end Go.Proofs.Ytdbnimgbmjeplaa
