/-
  Texts of the proof, what it needs of them: Enl.
-/
import Derived.Test.YtmlbphmbffkdnaaGw05
import Derived.Test.YtmlbphmbffkdnaaGw10
namespace Go.Proofs.Ytmlbphmbffkdnaa
open Go.RowKit
set_option linter.unusedVariables false
set_option maxRecDepth 100000

end Go.Proofs.Ytmlbphmbffkdnaa
namespace Go.Proofs.Ytmlbphmbffkdnaa
open Go.RowKit
set_option linter.unusedVariables false
set_option maxRecDepth 100000

theorem own_fin2 {w w1 w2 : World} {v v' : Value} {zs : List Int} {x : Int} {o : Obj} (h0 : Below w.heap.size w w1) (ho : Own w1 w.heap.size v zs) (hx : -9223372036854775808 ≤ x ∧ x ≤ 9223372036854775807)
    (hown : w2.ownsRow w.heap.size 3 1 v' (zs.length + 1) (zs.map (Value.int .i64) ++ [.int .i64 x])) (hg : (w1.alloc o).grownBy w2 v.ownBlock) : Own w2 w.heap.size v' (zs ++ [x]) ∧ Below w.heap.size w w2 :=
  ⟨own_snoc ho.1 hx hown, (h0.alloc h0.size o).grown hg (by have := h0.size; simp; omega) (fun k hk => own_block ho k hk)⟩

end Go.Proofs.Ytmlbphmbffkdnaa
