/-
  The law FnTreClash: the walk of the program's clash, which its walk was given, laid in.
-/
import Derived.Test.YtdbnimgbmjeplaaLawsK
import Derived.Test.YtdbnimgbmjeplaaClasj
namespace Go.Proofs.Ytdbnimgbmjeplaa
open Go.RowKit
theorem goes75 : Goes75 := fun f l ps i leaf p bo m cap' w h1 h2 h3 h4 h5 h6 => c34 f l ps i leaf p bo m cap' w h1 h2 h3 h4 h5 h6
end Go.Proofs.Ytdbnimgbmjeplaa
