/-
  The walk of the model's draw of the numbers of a leaf.
-/
import Derived.Test.YtchmjimfpamoeaaLawsB
namespace Go.Proofs.Ytchmjimfpamoeaa
open Go.RowKit

end Go.Proofs.Ytchmjimfpamoeaa
