/-
  The walks of TreUp and TreCheck of the program, and of their exact laws.
-/
import Derived.Test.YtjdnengmllamcaaLead
namespace Go.Proofs.Ytjdnengmllamcaa
open Go.RowKit
set_option linter.unusedVariables false

set_option maxHeartbeats 2000000 in
theorem c135 (ps : List Int) (n i leaf : Int) (ao : Option Addr) (m cap : Nat) (w : World) (hm : ps.length = m) (hcap : m ≤ cap) (hb : m ≤ 1048576) (hr : Row w ao ps) :
    Calls Try.prog 135 #[.int .i64 n, .int .i64 i, .int .i64 leaf, .slice ao m cap] w fun e w' => e = .returned (upVal (Tm.treUp n i leaf ps)) ∧ Below w.heap.size w w' := by
  have HR := hide hr
  have HM := hide hm
  clear hr hm
  by_cases h1 : n < 1
  · have HU := hide (treUp_no (n := n) (i := i) (leaf := leaf) (ps := ps) (by omega))
    go_enter Try.func135, Try.ntmps135
    go_wp2_with fail
    go_ret2
    exact ⟨by rw [unhide HU]; rfl, Below.refl _ _⟩
  have d1 : decide (n < 1) = false := by simpa using h1
  by_cases h2 : 40 < n
  · have HU := hide (treUp_no (n := n) (i := i) (leaf := leaf) (ps := ps) (by omega))
    go_enter Try.func135, Try.ntmps135
    go_wp2_with fail
    go_ret2
    exact ⟨by rw [unhide HU]; rfl, Below.refl _ _⟩
  have d2 : decide (40 < n) = false := by simpa using h2
  by_cases h3 : i < 0
  · have HU := hide (treUp_no (n := n) (i := i) (leaf := leaf) (ps := ps) (by omega))
    go_enter Try.func135, Try.ntmps135
    go_wp2_with fail
    go_ret2
    exact ⟨by rw [unhide HU]; rfl, Below.refl _ _⟩
  have d3 : decide (i < 0) = false := by simpa using h3
  by_cases h4 : n ≤ i
  · have HU := hide (treUp_no (n := n) (i := i) (leaf := leaf) (ps := ps) (by omega))
    go_enter Try.func135, Try.ntmps135
    go_wp2_with fail
    go_ret2
    exact ⟨by rw [unhide HU]; rfl, Below.refl _ _⟩
  have d4 : decide (n ≤ i) = false := by simpa using h4
  rcases h5 : Tm.okB leaf with _ | _
  · have HU := hide (treUp_no (n := n) (i := i) (leaf := leaf) (ps := ps) (by rw [h5]; simp))
    go_enter Try.func135, Try.ntmps135
    go_wp2_with (go_at_call 34; refine (c34 _ _).mono ?_; rintro e w' ⟨rfl, rfl⟩)
    go_ret2
    exact ⟨by rw [unhide HU]; rfl, Below.refl _ _⟩
  rcases h6 : Tm.treOk ps with _ | _
  · have HU := hide (treUp_no (n := n) (i := i) (leaf := leaf) (ps := ps) (by rw [h6]; simp))
    go_enter Try.func135, Try.ntmps135
    go_wp2_with (first | (go_at_call 34; refine (c34 _ _).mono ?_; rintro e w' ⟨rfl, rfl⟩) | (go_at_call 127; refine (c127 ps _ _ _ _ (unhide HM) (by omega) (unhide HR)).mono ?_; rintro e w' ⟨rfl, rfl⟩))
    go_ret2
    exact ⟨by rw [unhide HU]; rfl, Below.refl _ _⟩
  have HU := hide (treUp_of (n := n) (i := i) (leaf := leaf) (ps := ps) ⟨by omega, by omega, by omega, by omega, h5, h6⟩)
  obtain ⟨t1, t2⟩ := treOk_len h6
  have HL := hide h5
  have HT := hide t2
  go_enter Try.func135, Try.ntmps135
  go_wp2_with (first | (go_at_call 34; refine (c34 _ _).mono ?_; rintro e w' ⟨rfl, rfl⟩) | (go_at_call 127; refine (c127 ps _ _ _ _ (unhide HM) (by omega) (unhide HR)).mono ?_; rintro e w' ⟨rfl, rfl⟩))
  refine (c160 ps.length ps n i leaf _ _ _ _ rfl (unhide HM) hcap t1 (by omega) (by omega) (by omega) (by omega) (unhide HL) (unhide HT) (unhide HR)).mono ?_
  rintro e w1 ⟨rfl, hb1⟩
  have HB := hide hb1
  clear hb1
  go_wp2_with fail
  go_ret2
  exact ⟨by rw [unhide HU]; rfl, unhide HB⟩

set_option maxHeartbeats 1000000 in
theorem c65 (ps : List Int) (root n i leaf : Int) (ao : Option Addr) (m cap : Nat) (w : World) (hm : ps.length = m) (hcap : m ≤ cap) (hb : m ≤ 1048576) (hr : Row w ao ps) :
    Calls Try.prog 65 #[.int .i64 root, .int .i64 n, .int .i64 i, .int .i64 leaf, .slice ao m cap] w fun e w' => e = .returned (.bool (Tm.treCheck root n i leaf ps)) ∧ Below w.heap.size w w' := by
  have HR := hide hr
  clear hr
  go_enter Try.func65, Try.ntmps65
  go_wp2_with fail
  refine (c135 ps n i leaf _ m cap _ hm hcap hb (unhide HR)).mono ?_
  rintro e w1 ⟨rfl, hb1⟩
  have HB := hide hb1
  clear hb1
  rcases hu : Tm.treUp n i leaf ps with _ | y
  · have Hu := hide hu
    clear hu
    simp only [upVal, Option.isSome_none, Option.getD_none]
    go_wp2_with fail
    go_ret
    exact ⟨ret_bool (by unfold Tm.treCheck; rw [unhide Hu]; rfl), unhide HB⟩
  · have Hu := hide hu
    clear hu
    simp only [upVal, Option.isSome_some, Option.getD_some]
    go_wp2_with fail
    go_ret
    exact ⟨ret_bool (by unfold Tm.treCheck; rw [unhide Hu]; rfl), unhide HB⟩

end Go.Proofs.Ytjdnengmllamcaa
