/-
  The walk of the law FnExactHedOk: at every argument it answers true, and nothing that was there is written.
-/
import Derived.Test.YtimaidcjccakeaaLawsha
namespace Go.Proofs.Ytimaidcjccakeaa
open Go.RowKit
set_option linter.unusedVariables false
set_option maxRecDepth 100000

set_option maxHeartbeats 4000000 in
theorem law17 (a b c : Int) (w : World) : Calls Try.prog 17 #[hedV a b c] w (Holds w) := by
  have HX := hide (box_new w [.int .i64 a, .int .i64 b, .int .i64 c] 87 (by simp [Value.oneCell']))
  have HB := hide (below_a (w := w) (.cells #[.int .i64 a, .int .i64 b, .int .i64 c] 87))
  have x0 := (unhide HX).cell 0 rfl
  have x1 := (unhide HX).cell 1 rfl
  have x2 := (unhide HX).cell 2 rfl
  go_enter Try.func17, Try.ntmps17
  go_wp2_with fail
  refine (c94 a b c _).mono ?_
  rintro e w1 ⟨rfl, hb⟩
  clear x0 x1 x2
  replace HB := hide (below_tr (unhide HB) hb)
  replace HX := hide ((unhide HX).bel hb)
  clear hb
  have x0 := (unhide HX).cell 0 rfl
  have x1 := (unhide HX).cell 1 rfl
  have x2 := (unhide HX).cell 2 rfl
  go_wp2_with fail
  refine (c77 a b c _).mono ?_
  rintro e w2 ⟨rfl, hb⟩
  clear x0 x1 x2
  replace HB := hide (below_tr (unhide HB) hb)
  replace HX := hide ((unhide HX).bel hb)
  clear hb
  have x0 := (unhide HX).cell 0 rfl
  have x1 := (unhide HX).cell 1 rfl
  have x2 := (unhide HX).cell 2 rfl
  go_wp2_with fail
  refine (c94 a b c _).mono ?_
  rintro e w3 ⟨rfl, hb⟩
  clear x0 x1 x2
  replace HB := hide (below_tr (unhide HB) hb)
  replace HX := hide ((unhide HX).bel hb)
  clear hb
  have x0 := (unhide HX).cell 0 rfl
  have x1 := (unhide HX).cell 1 rfl
  have x2 := (unhide HX).cell 2 rfl
  go_wp2_with fail
  refine (c76 a b c _).mono ?_
  rintro e w4 ⟨rfl, hb⟩
  clear x0 x1 x2
  replace HB := hide (below_tr (unhide HB) hb)
  replace HX := hide ((unhide HX).bel hb)
  clear hb
  have x0 := (unhide HX).cell 0 rfl
  have x1 := (unhide HX).cell 1 rfl
  have x2 := (unhide HX).cell 2 rfl
  go_wp2_with fail
  go_ret
  exact ⟨rfl, unhide HB⟩
end Go.Proofs.Ytimaidcjccakeaa
