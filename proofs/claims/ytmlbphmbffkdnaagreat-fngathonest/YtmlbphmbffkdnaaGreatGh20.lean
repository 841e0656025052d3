/-
  Texts of the proof, what it needs of them: Growa.
-/
import Derived.Test.YtmlbphmbffkdnaaGreatGh07
import Derived.Test.YtmlbphmbffkdnaaGreatGh12
namespace Go.Proofs.YtmlbphmbffkdnaaGreat
open Go.RowKit
set_option linter.unusedVariables false

end Go.Proofs.YtmlbphmbffkdnaaGreat
