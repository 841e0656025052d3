/-
  The walk of the model's draw of the numbers of a leaf.
-/
import Derived.Test.YtjdnengmllamcaaLawsB
namespace Go.Proofs.Ytjdnengmllamcaa
open Go.RowKit

end Go.Proofs.Ytjdnengmllamcaa
