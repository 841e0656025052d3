/-
  The walks of the laws of mixing and of parting: at every code they answer true, and nothing that was there is written.
-/
import Derived.Test.YtjdnengmllamcaaDrawc
namespace Go.Proofs.Ytjdnengmllamcaa
open Go.RowKit

set_option maxHeartbeats 400000 in
theorem c40 (w : World) : Calls Try.prog 40 #[] w fun e w' => e = .returned (.bool true) ∧ w' = w := by
  go_enter Try.func40, Try.ntmps40
  go_wp2_with (go_at_call 34; refine (c34 _ _).mono ?_; rintro e w' ⟨rfl, rfl⟩)
  go_ret
  exact ⟨ret_bool (by decide), rfl⟩

/-- what a law leaves: true, and nothing that was there is written -/
def Holds (w : World) (e : Ending) (w' : World) : Prop := e = .returned (.bool true) ∧ Below w.heap.size w w'

end Go.Proofs.Ytjdnengmllamcaa
