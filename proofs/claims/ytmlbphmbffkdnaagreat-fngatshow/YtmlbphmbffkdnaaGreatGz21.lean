/-
  Texts of the proof, what it needs of them: Growa.
-/
import Derived.Test.YtmlbphmbffkdnaaGreatGz07
import Derived.Test.YtmlbphmbffkdnaaGreatGz13
namespace Go.Proofs.YtmlbphmbffkdnaaGreat
open Go.RowKit
set_option linter.unusedVariables false

end Go.Proofs.YtmlbphmbffkdnaaGreat
