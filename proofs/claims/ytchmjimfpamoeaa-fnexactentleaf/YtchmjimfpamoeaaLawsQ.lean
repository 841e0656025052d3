/-
  The walks of the exact laws of EntCap, EntOk, EntLeaf: at every argument they answer true, and nothing that was there is written.
-/
import Derived.Test.YtchmjimfpamoeaaEntc
import Derived.Test.YtchmjimfpamoeaaLawsB
import Derived.Test.YtchmjimfpamoeaaBoxy
namespace Go.Proofs.Ytchmjimfpamoeaa
open Go.RowKit
set_option linter.unusedVariables false
set_option maxRecDepth 100000

set_option maxHeartbeats 400000 in
theorem law14 (n : Int) (w : World) : Calls Try.prog 14 #[.int .i64 n] w (Holds w) := by
  go_enter Try.func14, Try.ntmps14
  go_wp2_with (first | (go_at_call 30; refine (c30 _ _).mono ?_; rintro e w' ⟨rfl, rfl⟩) | (go_at_call 31; refine (c31 _ _).mono ?_; rintro e w' ⟨rfl, rfl⟩))
  go_ret
  exact ⟨rfl, Below.refl _ _⟩

set_option maxHeartbeats 800000 in
theorem law15 (k t u p : Int) (w : World) : Calls Try.prog 15 #[entV k t u p] w (Holds w) := by
  go_enter Try.func15, Try.ntmps15
  go_wp2_with fail
  refine (c79 k t u p _).mono ?_
  rintro e w1 ⟨rfl, hb1⟩
  have HX1 := hide ((box_new w [.int .i64 k, .int .i64 t, .int .i64 u, .int .i64 p] 70 (by simp [Value.oneCell'])).below hb1)
  have HB1 := hide (below_tr (below_a _) hb1)
  clear hb1
  go_wp2_with fail
  refine (c41 k t u p _).mono ?_
  rintro e w2 ⟨rfl, hb2⟩
  have HX2 := hide ((unhide HX1).below hb2)
  have HB2 := hide (below_tr (unhide HB1) hb2)
  clear hb2 HX1 HB1
  have g0 := (unhide HX2).cell 0 rfl
  have g1 := (unhide HX2).cell 1 rfl
  have g2 := (unhide HX2).cell 2 rfl
  have g3 := (unhide HX2).cell 3 rfl
  go_wp2_with fail
  refine (c79 k t u p _).mono ?_
  rintro e w3 ⟨rfl, hb3⟩
  have HB3 := hide (below_tr (unhide HB2) hb3)
  clear hb3 HB2 HX2 g0 g1 g2 g3
  go_wp2_with fail
  refine (c80 k t u p _).mono ?_
  rintro e w4 ⟨rfl, hb4⟩
  have HB4 := hide (below_tr (unhide HB3) hb4)
  clear hb4 HB3
  go_wp2_with fail
  go_ret
  exact ⟨rfl, unhide HB4⟩

set_option maxHeartbeats 800000 in
theorem law16 (k t u p : Int) (w : World) (hf : FitsE k t u p) : Calls Try.prog 16 #[entV k t u p] w (Holds w) := by
  have HF := hide hf
  clear hf
  go_enter Try.func16, Try.ntmps16
  go_wp2_with fail
  refine (c79 k t u p _).mono ?_
  rintro e w1 ⟨rfl, hb1⟩
  have HX1 := hide ((box_new w [.int .i64 k, .int .i64 t, .int .i64 u, .int .i64 p] 70 (by simp [Value.oneCell'])).below hb1)
  have HB1 := hide (below_tr (below_a _) hb1)
  clear hb1
  go_wp2_with fail
  refine (c37 k t u p _ (unhide HF)).mono ?_
  rintro e w2 ⟨rfl, hb2⟩
  have HX2 := hide ((unhide HX1).below hb2)
  have HB2 := hide (below_tr (unhide HB1) hb2)
  clear hb2 HX1 HB1
  have g0 := (unhide HX2).cell 0 rfl
  have g1 := (unhide HX2).cell 1 rfl
  have g2 := (unhide HX2).cell 2 rfl
  have g3 := (unhide HX2).cell 3 rfl
  go_wp2_with fail
  refine (c79 k t u p _).mono ?_
  rintro e w3 ⟨rfl, hb3⟩
  have HB3 := hide (below_tr (unhide HB2) hb3)
  clear hb3 HB2 HX2 g0 g1 g2 g3
  go_wp2_with fail
  refine (c36 k t u p _ (unhide HF)).mono ?_
  rintro e w4 ⟨rfl, hb4⟩
  have HB4 := hide (below_tr (unhide HB3) hb4)
  clear hb4 HB3
  go_wp2_with fail
  go_ret
  exact ⟨rfl, unhide HB4⟩
end Go.Proofs.Ytchmjimfpamoeaa
