/-
  The walk of the exact law of OwnLeaf: at every argument it answers true, and nothing that was there is written.
-/
import Derived.Test.YtchmjimfpamoeaaOwna
import Derived.Test.YtchmjimfpamoeaaLawsB
import Derived.Test.YtchmjimfpamoeaaBoxy
namespace Go.Proofs.Ytchmjimfpamoeaa
open Go.RowKit
set_option linter.unusedVariables false
set_option maxRecDepth 100000

set_option maxHeartbeats 800000 in
theorem law23 (m k t : Int) (u : Bool) (w : World) (hf : FitR (k, t, u)) : Calls Try.prog 23 #[.int .i64 m, rowV k t u] w (Holds w) := by
  have HF := hide hf
  clear hf
  go_enter Try.func23, Try.ntmps23
  go_wp2_with fail
  refine (c94 k t u _).mono ?_
  rintro e w1 ⟨rfl, hb1⟩
  have HX1 := hide ((box_new w [.int .i64 k, .int .i64 t, .bool u] 85 (by simp [Value.oneCell'])).below hb1)
  have HB1 := hide (below_tr (below_a _) hb1)
  clear hb1
  go_wp2_with fail
  refine (c73 m k t u _ (unhide HF)).mono ?_
  rintro e w2 ⟨rfl, hb2⟩
  have HX2 := hide ((unhide HX1).below hb2)
  have HB2 := hide (below_tr (unhide HB1) hb2)
  clear hb2 HX1 HB1
  have g0 := (unhide HX2).cell 0 rfl
  have g1 := (unhide HX2).cell 1 rfl
  have g2 := (unhide HX2).cell 2 rfl
  go_wp2_with fail
  refine (c94 k t u _).mono ?_
  rintro e w3 ⟨rfl, hb3⟩
  have HB3 := hide (below_tr (unhide HB2) hb3)
  clear hb3 HB2 HX2 g0 g1 g2
  go_wp2_with fail
  refine (c65 m k t u _ (unhide HF)).mono ?_
  rintro e w4 ⟨rfl, hb4⟩
  have HB4 := hide (below_tr (unhide HB3) hb4)
  clear hb4 HB3
  go_wp2_with fail
  go_ret
  exact ⟨rfl, unhide HB4⟩
end Go.Proofs.Ytchmjimfpamoeaa
