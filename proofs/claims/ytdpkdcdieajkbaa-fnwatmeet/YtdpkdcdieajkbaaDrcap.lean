/-
  The draw of what a ticket cost first, and the walk of the law FnEntCap.
-/
import Derived.Test.YtdpkdcdieajkbaaEnta
import Derived.Test.YtdpkdcdieajkbaaDraw
namespace Go.Proofs.Ytdpkdcdieajkbaa
open Go.RowKit
set_option linter.unusedVariables false
set_option maxRecDepth 100000

theorem below_g {w w1 w2 : World} {r : Nat} (h : Below w.heap.size w w1) (hg : w1.grownBy w2 (some r)) (hr : w.heap.size ≤ r) : Below w.heap.size w w2 := h.grown hg h.size (fun k hk => by cases hk; exact hr)

end Go.Proofs.Ytdpkdcdieajkbaa
