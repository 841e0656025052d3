/-
  Texts of the proof, what it needs of them: Hedd.
-/
import Derived.Laws.StructEq
import Derived.Test.YtmlbphmbffkdnaaGt23
import Derived.Test.YtmlbphmbffkdnaaGt24
import Derived.Test.YtmlbphmbffkdnaaGt38
import Derived.WideKeyRuns
namespace Go.Proofs.Ytmlbphmbffkdnaa
open Go.RowKit
set_option linter.unusedVariables false
set_option maxRecDepth 100000

/-- the head of entries, part by part -/
def hS (es : List Tm.Ent) : Int := if foldIs es = true then (es.length : Int) else 0
def hL (es : List Tm.Ent) : Int := if foldIs es = true then Tm.treRoot (Tm.entLeaves es) else 0
end Go.Proofs.Ytmlbphmbffkdnaa
