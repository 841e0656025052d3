/-
  The draws of rows, and of rows and a number.
-/
import Derived.Test.YtimaidcjccakeaaL20r
import Derived.Test.YtimaidcjccakeaaDrg
namespace Go.Proofs.Ytimaidcjccakeaa
open Go.RowKit
set_option linter.unusedVariables false
set_option maxRecDepth 100000

/-- rows and a number, drawn of a code -/
def RowsN (w : World) (e : Ending) (w' : World) : Prop :=
  ∃ (ar : Option Addr) (n cap : Nat) (rs : List Tm.Rw) (t : Int), e = .returned (.tuple #[.slice ar n cap, .int .i64 t]) ∧ rs.length = n ∧ n ≤ 8 ∧ n ≤ cap ∧ (-1 ≤ t ∧ t ≤ 10) ∧ RRow w' ar rs ∧ Below w.heap.size w w'
/-- rows, drawn of a code -/
def RowsO (w : World) (e : Ending) (w' : World) : Prop :=
  ∃ (ar : Option Addr) (n cap : Nat) (rs : List Tm.Rw), e = .returned (.slice ar n cap) ∧ rs.length = n ∧ n ≤ 8 ∧ n ≤ cap ∧ RRow w' ar rs ∧ Below w.heap.size w w'

set_option maxHeartbeats 8000000 in
theorem c161 (bs : List Int) (ao : Option Addr) (n cap : Nat) (w : World) (hn : bs.length = n) (hc : n ≤ cap) (hm : cap ≤ maxLen) (hB : Bytes w ao bs) :
    Calls Try.prog 161 #[.slice ao n cap] w (RowsN w) := by
  have HB := hide (Below.refl w.heap.size w)
  have HBY := hide hB
  clear hB
  go_enter Try.func161, Try.ntmps161
  go_wp2_with fail
  refine (c129 bs ao n cap _ hn hc hm (unhide HBY)).mono ?_
  rintro e w1 ⟨rfl, hr, hb, hl1⟩
  clear HBY
  replace HB := hide (below_tr (unhide HB) hb)
  have HRd := hide hr
  clear hr hb
  go_wp2_with fail
  refine (c135 w.heap.size (0) 9 _ (by omega) (by omega) (unhide HRd)).mono ?_
  rintro e w2 ⟨ars, nrs, crs, rs, rfl, hnrs, h8rs, hcrs, hzrs, hrw, hr, hg⟩
  have hbasers : w.heap.size < w1.heap.size := (unhide HRd).lt
  replace HB := hide (below_gr (unhide HB) hg (by omega))
  replace HRd := hide hr
  clear hr hg
  have HW := hide hrw
  clear hrw
  go_wp2_with fail
  refine (c144 w.heap.size (0 + 270) 7 _ (by omega) (unhide HRd)).mono ?_
  rintro e w3 ⟨x, rfl, xa, xb, hr, hg⟩
  have xb := xb (by omega)
  replace HB := hide (below_gr (unhide HB) hg (by omega))
  replace HW := hide ((unhide HW).kg hg (by omega))
  replace HRd := hide hr
  clear hr hg
  go_wp2_with fail
  go_ret2
  exact ⟨_, _, _, rs, x, rfl, hnrs, h8rs, hcrs, by omega, (unhide HW).1, unhide HB⟩

set_option maxHeartbeats 8000000 in
theorem c51 (bs : List Int) (ao : Option Addr) (n cap : Nat) (w : World) (hn : bs.length = n) (hc : n ≤ cap) (hm : cap ≤ maxLen) (hB : Bytes w ao bs) :
    Calls Try.prog 51 #[.slice ao n cap] w (RowsN w) := by
  have HB := hide (Below.refl w.heap.size w)
  have HBY := hide hB
  clear hB
  go_enter Try.func51, Try.ntmps51
  go_wp2_with fail
  refine (c129 bs ao n cap _ hn hc hm (unhide HBY)).mono ?_
  rintro e w1 ⟨rfl, hr, hb, hl1⟩
  clear HBY
  replace HB := hide (below_tr (unhide HB) hb)
  have HRd := hide hr
  clear hr hb
  go_wp2_with fail
  refine (c135 w.heap.size (0) 12 _ (by omega) (by omega) (unhide HRd)).mono ?_
  rintro e w2 ⟨ars, nrs, crs, rs, rfl, hnrs, h8rs, hcrs, hzrs, hrw, hr, hg⟩
  have hbasers : w.heap.size < w1.heap.size := (unhide HRd).lt
  replace HB := hide (below_gr (unhide HB) hg (by omega))
  replace HRd := hide hr
  clear hr hg
  have HW := hide hrw
  clear hrw
  go_wp2_with fail
  refine (c144 w.heap.size (0 + 270) 10 _ (by omega) (unhide HRd)).mono ?_
  rintro e w3 ⟨x, rfl, xa, xb, hr, hg⟩
  have xb := xb (by omega)
  replace HB := hide (below_gr (unhide HB) hg (by omega))
  replace HW := hide ((unhide HW).kg hg (by omega))
  replace HRd := hide hr
  clear hr hg
  go_wp2_with fail
  go_ret2
  exact ⟨_, _, _, rs, x - 1, rfl, hnrs, h8rs, hcrs, by omega, (unhide HW).1, unhide HB⟩

set_option maxHeartbeats 8000000 in
theorem c63 (bs : List Int) (ao : Option Addr) (n cap : Nat) (w : World) (hn : bs.length = n) (hc : n ≤ cap) (hm : cap ≤ maxLen) (hB : Bytes w ao bs) :
    Calls Try.prog 63 #[.slice ao n cap] w (RowsO w) := by
  have HB := hide (Below.refl w.heap.size w)
  have HBY := hide hB
  clear hB
  go_enter Try.func63, Try.ntmps63
  go_wp2_with fail
  refine (c129 bs ao n cap _ hn hc hm (unhide HBY)).mono ?_
  rintro e w1 ⟨rfl, hr, hb, hl1⟩
  clear HBY
  replace HB := hide (below_tr (unhide HB) hb)
  have HRd := hide hr
  clear hr hb
  go_wp2_with fail
  refine (c135 w.heap.size (0) 6 _ (by omega) (by omega) (unhide HRd)).mono ?_
  rintro e w2 ⟨ars, nrs, crs, rs, rfl, hnrs, h8rs, hcrs, hzrs, hrw, hr, hg⟩
  have hbasers : w.heap.size < w1.heap.size := (unhide HRd).lt
  replace HB := hide (below_gr (unhide HB) hg (by omega))
  replace HRd := hide hr
  clear hr hg
  have HW := hide hrw
  clear hrw
  go_wp2_with fail
  go_ret
  exact ⟨_, _, _, rs, rfl, hnrs, h8rs, hcrs, (unhide HW).1, unhide HB⟩

set_option maxHeartbeats 1000000 in
theorem c65 (bs : List Int) (ao : Option Addr) (n cap : Nat) (w : World) (hn : bs.length = n) (hc : n ≤ cap) (hm : cap ≤ maxLen) (hB : Bytes w ao bs) :
    Calls Try.prog 65 #[.slice ao n cap] w (RowsN w) := by
  have HB := hide hB
  clear hB
  go_enter Try.func65, Try.ntmps65
  go_wp2_with fail
  refine (c161 bs ao n cap _ hn hc hm (unhide HB)).mono ?_
  rintro e w1 ⟨ar, nr, cr, rs, t, rfl, h1, h2, h3, h4, hr, hb⟩
  have HR := hide hr
  have HBB := hide hb
  clear HB hn hc hm hr hb
  go_wp2_with fail
  go_ret2
  exact ⟨_, _, _, rs, t, rfl, h1, h2, h3, h4, unhide HR, unhide HBB⟩
end Go.Proofs.Ytimaidcjccakeaa
