/-
  The walk of the law FnOwnFits: at every code it answers true, and nothing that was there is written.
-/
import Derived.Test.YtdpkdcdieajkbaaL20n
import Derived.Test.YtdpkdcdieajkbaaOwr
namespace Go.Proofs.Ytdpkdcdieajkbaa
open Go.RowKit
set_option linter.unusedVariables false
set_option maxRecDepth 100000

theorem RRow.at' {w : World} {b off j : Nat} {rs : List Tm.Rw} {a c : Int} {d : Bool} (h : RRow w (some ⟨b, off, none⟩) rs) (hj : rs[j]? = some (a, c, d)) :
    w.cell? ⟨b, off + j * 3, none⟩ = some (.int .i64 a) ∧ w.cell? ⟨b, off + j * 3 + 1, none⟩ = some (.int .i64 c) ∧ w.cell? ⟨b, off + j * 3 + 2, none⟩ = some (.bool d) := by
  obtain ⟨b', off', he, hc⟩ := h.2 (by intro e; subst e; simp at hj)
  cases he
  exact r_cells (Below.refl _ _) hc hj

end Go.Proofs.Ytdpkdcdieajkbaa
