/-
  Texts of the proof, what it needs of them: Ups.
-/
import Derived.Deep.RegionHeld3
import Derived.Test.YtmlbphmbffkdnaaGt07
namespace Go.Proofs.Ytmlbphmbffkdnaa
open Go.RowKit

end Go.Proofs.Ytmlbphmbffkdnaa
namespace Go.Proofs.Ytmlbphmbffkdnaa
open Go.RowKit

theorem Row.drew {w : World} {ao : Option Addr} {zs : List Int} (h : Row w ao zs) : Row w.drew ao zs := h.drewN 1
theorem cell_below {W w' : World} (h : Below W.heap.size W w') {p : Addr} {v : Value} (hc : W.cell? p = some v) : w'.cell? p = some v :=
  (h.cell (World.block_lt_of_cell? W p hc)).trans hc
theorem below_undrew {W w' : World} (h : Below W.drew.heap.size W.drew w') : Below W.heap.size W w' := ⟨h.os, h.tape, h.output, h.size, h.block⟩
theorem below_drew (W : World) : Below W.heap.size W W.drew := (Below.refl _ _).drew
theorem below_then {A W w' : World} (h : Below A.heap.size A W) (k : Below W.heap.size W w') : Below A.heap.size A w' := h.trans (k.mono h.size)
end Go.Proofs.Ytmlbphmbffkdnaa
namespace Go.Proofs.Ytmlbphmbffkdnaa
open Go.RowKit
set_option linter.unusedVariables false

end Go.Proofs.Ytmlbphmbffkdnaa
