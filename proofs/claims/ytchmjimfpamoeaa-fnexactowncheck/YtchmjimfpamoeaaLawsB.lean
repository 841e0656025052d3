/-
  The walks of the laws of mixing and of parting: at every code they answer true, and nothing that was there is written.
-/
import Derived.Test.YtchmjimfpamoeaaDrawc
namespace Go.Proofs.Ytchmjimfpamoeaa
open Go.RowKit

set_option maxHeartbeats 400000 in
theorem c32 (w : World) : Calls Try.prog 32 #[] w fun e w' => e = .returned (.bool true) ∧ w' = w := by
  go_enter Try.func32, Try.ntmps32
  go_wp2_with (go_at_call 40; refine (c40 _ _).mono ?_; rintro e w' ⟨rfl, rfl⟩)
  go_ret
  exact ⟨ret_bool (by decide), rfl⟩

/-- what a law leaves: true, and nothing that was there is written -/
def Holds (w : World) (e : Ending) (w' : World) : Prop := e = .returned (.bool true) ∧ Below w.heap.size w w'

end Go.Proofs.Ytchmjimfpamoeaa
