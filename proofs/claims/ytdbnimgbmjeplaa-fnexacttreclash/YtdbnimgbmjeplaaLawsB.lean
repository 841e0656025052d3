/-
  The walks of the laws of mixing and of parting: at every code they answer true, and nothing that was there is written.
-/
import Derived.Test.YtdbnimgbmjeplaaDrawc
namespace Go.Proofs.Ytdbnimgbmjeplaa
open Go.RowKit

set_option maxHeartbeats 400000 in
theorem c17 (w : World) : Calls Try.prog 17 #[] w fun e w' => e = .returned (.bool true) ∧ w' = w := by
  go_enter Try.func17, Try.ntmps17
  go_wp2_with (go_at_call 19; refine (c19 _ _).mono ?_; rintro e w' ⟨rfl, rfl⟩)
  go_ret
  exact ⟨ret_bool (by decide), rfl⟩

/-- what a law leaves: true, and nothing that was there is written -/
def Holds (w : World) (e : Ending) (w' : World) : Prop := e = .returned (.bool true) ∧ Below w.heap.size w w'

end Go.Proofs.Ytdbnimgbmjeplaa
