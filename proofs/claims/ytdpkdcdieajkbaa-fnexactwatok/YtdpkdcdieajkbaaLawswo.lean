/-
  The walk of the exact law FnExactWatOk: at every argument it answers true, and nothing that was there is written.
-/
import Derived.Test.YtdpkdcdieajkbaaLawswb
import Derived.Test.YtdpkdcdieajkbaaWato
namespace Go.Proofs.Ytdpkdcdieajkbaa
open Go.RowKit
set_option linter.unusedVariables false
set_option maxRecDepth 100000

set_option maxHeartbeats 4000000 in
theorem law9 (xs : List Tm.Hed) (ao : Option Addr) (n cap : Nat) (w : World) (hn : xs.length = n) (hcap : n ≤ cap) (hmx : cap ≤ maxLen) (hr : WRow w ao xs) :
    Calls Try.prog 9 #[.slice ao n cap] w (Holds w) := by
  unfold maxLen at hmx
  by_cases hbig : n ≤ 1048576
  case neg =>
    go_enter Try.func9, Try.ntmps9
    go_wp2_with fail
    refine (c61 ao n cap _ (by omega)).mono ?_
    rintro e w1 ⟨rfl, rfl⟩
    rw [if_neg hbig]
    go_wp2_with fail
    go_ret
    exact ⟨rfl, Below.refl _ _⟩
  have HA := hide hr
  have HN := hide hn
  clear hr hn
  go_enter Try.func9, Try.ntmps9
  go_wp2_with fail
  refine (c61 ao n cap _ (by omega)).mono ?_
  rintro e w0 ⟨rfl, hw0⟩
  have hw0 := hw0.symm
  subst hw0
  rw [if_pos hbig]
  have hnn : ¬ (1048576 - (n : Int) < 0) := by omega
  have HB0 := hide (Below.refl w.heap.size w)
  generalize hres : watOk xs = y at *
  have HRES := hide hres
  clear hres
  go_wp2_with fail
  refine (c62 xs ao n cap _ HN.out (by omega) ((unhide HA).bel (unhide HB0))).mono ?_
  rintro e w1 ⟨rfl, hx1, hb1⟩
  have HT1 := hide (hx1.rd HN.out)
  have HB1 := hide (below_tr (unhide HB0) hb1)
  clear hb1 HB0 hx1
  go_wp2_with fail
  refine (c51 xs _ n n _ HN.out (by omega) (unhide HT1)).mono ?_
  rintro e w2 ⟨rfl, hb2⟩
  rw [unhide HRES]
  have HB2 := hide (below_tr (unhide HB1) hb2)
  clear hb2 HB1 HT1
  go_wp2_with fail
  refine (c62 xs ao n cap _ HN.out (by omega) ((unhide HA).bel (unhide HB2))).mono ?_
  rintro e w3 ⟨rfl, hx3, hb3⟩
  have HX3 := hide hx3
  have HB3 := hide (below_tr (unhide HB2) hb3)
  clear hb3 HB2 hx3
  go_wp2_with fail
  refine (c50 xs _ n n _ HN.out (by omega) ((unhide HX3).rd HN.out)).mono ?_
  rintro e w4 ⟨rfl, hb4⟩
  rw [unhide HRES]
  have HB4 := hide (below_tr (unhide HB3) hb4)
  have HX4 := hide ((unhide HX3).bel hb4)
  clear hb4 HB3 HX3
  go_wp2_with fail
  refine (c62 xs ao n cap _ HN.out (by omega) ((unhide HA).bel (unhide HB4))).mono ?_
  rintro e w5 ⟨rfl, hx5, hb5⟩
  have HT5 := hide (hx5.rd HN.out)
  have HB5 := hide (below_tr (unhide HB4) hb5)
  have HX5 := hide ((unhide HX4).bel hb5)
  clear hb5 HB4 hx5 HX4
  go_wp2_with fail
  refine (sameW xs _ _ _ _ _ _ HN.out (by omega) ((unhide HX5).rd HN.out) (unhide HT5)).mono ?_
  rintro e w6 ⟨rfl, hb6⟩
  have HB6 := hide (below_tr (unhide HB5) hb6)
  clear hb6 HB5 HX5 HT5
  go_wp2_with fail
  go_ret
  exact ⟨rfl, unhide HB6⟩
end Go.Proofs.Ytdpkdcdieajkbaa
