/-
  Texts of the proof, what it needs of them: Hbas, Drp.
-/
import Derived.Laws.StructEq
import Derived.Test.YtmlbphmbffkdnaaGt22
import Derived.Test.YtmlbphmbffkdnaaGt23
import Derived.WideKeyRuns
namespace Go.Proofs.Ytmlbphmbffkdnaa
open Go.RowKit
set_option linter.unusedVariables false
set_option maxRecDepth 100000

theorem Box.bel {W w : World} {g : Nat} {vs : List Value} (h : Box W g vs) (hb : Below W.heap.size W w) : Box w g vs := h.below hb
end Go.Proofs.Ytmlbphmbffkdnaa
namespace Go.Proofs.Ytmlbphmbffkdnaa
open Go.RowKit
set_option linter.unusedVariables false
set_option maxRecDepth 100000

/-- what is written into new memory alone leaves all that was there but the reader -/
theorem grown_new {w w1 w2 : World} {r g : Nat} (h : w.grownBy w1 (some r)) (h2 : w1.grownBy w2 (some g)) (hg : w.heap.size ≤ g) : w.grownBy w2 (some r) :=
  ⟨h2.os.trans h.os, h2.tape.trans h.tape, h2.output.trans h.output, Nat.le_trans h.size h2.size, fun i hi hr => (h2.block i (Nat.lt_of_lt_of_le hi h.size) (fun e => by cases e; omega)).trans (h.block i hi hr)⟩

end Go.Proofs.Ytmlbphmbffkdnaa
