/-
  Texts of the proof, what it needs of them: Enl.
-/
import Derived.Test.YtmlbphmbffkdnaaGt05
import Derived.Test.YtmlbphmbffkdnaaGt10
namespace Go.Proofs.Ytmlbphmbffkdnaa
open Go.RowKit
set_option linter.unusedVariables false
set_option maxRecDepth 100000

end Go.Proofs.Ytmlbphmbffkdnaa
namespace Go.Proofs.Ytmlbphmbffkdnaa
open Go.RowKit
set_option linter.unusedVariables false
set_option maxRecDepth 100000

def Tm.entLeaf (e : Tm.Ent) : Int := Tm.leaf [e.1, e.2.1, e.2.2.1, e.2.2.2]
def Tm.entLeaves (es : List Tm.Ent) : List Int := es.map Tm.entLeaf
end Go.Proofs.Ytmlbphmbffkdnaa
