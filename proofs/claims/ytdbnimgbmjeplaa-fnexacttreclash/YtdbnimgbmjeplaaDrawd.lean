/-
  The walk of the model's draw of the numbers of a leaf.
-/
import Derived.Test.YtdbnimgbmjeplaaLawsB
namespace Go.Proofs.Ytdbnimgbmjeplaa
open Go.RowKit

end Go.Proofs.Ytdbnimgbmjeplaa
