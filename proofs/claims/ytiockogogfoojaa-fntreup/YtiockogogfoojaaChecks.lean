/-
  The walks of TreUp and TreCheck of the program, and of their exact laws.
-/
import Derived.Test.YtiockogogfoojaaLead
namespace Go.Proofs.Ytiockogogfoojaa
open Go.RowKit
set_option linter.unusedVariables false

set_option maxHeartbeats 2000000 in
theorem c49 (ps : List Int) (n i leaf : Int) (ao : Option Addr) (m cap : Nat) (w : World) (hm : ps.length = m) (hcap : m ≤ cap) (hb : m ≤ 1048576) (hr : Row w ao ps) :
    Calls Try.prog 49 #[.int .i64 n, .int .i64 i, .int .i64 leaf, .slice ao m cap] w fun e w' => e = .returned (upVal (Tm.treUp n i leaf ps)) ∧ Below w.heap.size w w' := by
  have HR := hide hr
  have HM := hide hm
  clear hr hm
  by_cases h1 : n < 1
  · have HU := hide (treUp_no (n := n) (i := i) (leaf := leaf) (ps := ps) (by omega))
    go_enter Try.func49, Try.ntmps49
    go_wp2_with fail
    go_ret2
    exact ⟨by rw [unhide HU]; rfl, Below.refl _ _⟩
  have d1 : decide (n < 1) = false := by simpa using h1
  by_cases h2 : 40 < n
  · have HU := hide (treUp_no (n := n) (i := i) (leaf := leaf) (ps := ps) (by omega))
    go_enter Try.func49, Try.ntmps49
    go_wp2_with fail
    go_ret2
    exact ⟨by rw [unhide HU]; rfl, Below.refl _ _⟩
  have d2 : decide (40 < n) = false := by simpa using h2
  by_cases h3 : i < 0
  · have HU := hide (treUp_no (n := n) (i := i) (leaf := leaf) (ps := ps) (by omega))
    go_enter Try.func49, Try.ntmps49
    go_wp2_with fail
    go_ret2
    exact ⟨by rw [unhide HU]; rfl, Below.refl _ _⟩
  have d3 : decide (i < 0) = false := by simpa using h3
  by_cases h4 : n ≤ i
  · have HU := hide (treUp_no (n := n) (i := i) (leaf := leaf) (ps := ps) (by omega))
    go_enter Try.func49, Try.ntmps49
    go_wp2_with fail
    go_ret2
    exact ⟨by rw [unhide HU]; rfl, Below.refl _ _⟩
  have d4 : decide (n ≤ i) = false := by simpa using h4
  rcases h5 : Tm.okB leaf with _ | _
  · have HU := hide (treUp_no (n := n) (i := i) (leaf := leaf) (ps := ps) (by rw [h5]; simp))
    go_enter Try.func49, Try.ntmps49
    go_wp2_with (go_at_call 27; refine (c27 _ _).mono ?_; rintro e w' ⟨rfl, rfl⟩)
    go_ret2
    exact ⟨by rw [unhide HU]; rfl, Below.refl _ _⟩
  rcases h6 : Tm.treOk ps with _ | _
  · have HU := hide (treUp_no (n := n) (i := i) (leaf := leaf) (ps := ps) (by rw [h6]; simp))
    go_enter Try.func49, Try.ntmps49
    go_wp2_with (first | (go_at_call 27; refine (c27 _ _).mono ?_; rintro e w' ⟨rfl, rfl⟩) | (go_at_call 34; refine (c34 ps _ _ _ _ (unhide HM) (by omega) (unhide HR)).mono ?_; rintro e w' ⟨rfl, rfl⟩))
    go_ret2
    exact ⟨by rw [unhide HU]; rfl, Below.refl _ _⟩
  have HU := hide (treUp_of (n := n) (i := i) (leaf := leaf) (ps := ps) ⟨by omega, by omega, by omega, by omega, h5, h6⟩)
  obtain ⟨t1, t2⟩ := treOk_len h6
  have HL := hide h5
  have HT := hide t2
  go_enter Try.func49, Try.ntmps49
  go_wp2_with (first | (go_at_call 27; refine (c27 _ _).mono ?_; rintro e w' ⟨rfl, rfl⟩) | (go_at_call 34; refine (c34 ps _ _ _ _ (unhide HM) (by omega) (unhide HR)).mono ?_; rintro e w' ⟨rfl, rfl⟩))
  refine (c73 ps.length ps n i leaf _ _ _ _ rfl (unhide HM) hcap t1 (by omega) (by omega) (by omega) (by omega) (unhide HL) (unhide HT) (unhide HR)).mono ?_
  rintro e w1 ⟨rfl, hb1⟩
  have HB := hide hb1
  clear hb1
  go_wp2_with fail
  go_ret2
  exact ⟨by rw [unhide HU]; rfl, unhide HB⟩

set_option maxHeartbeats 1000000 in
theorem c46 (ps : List Int) (root n i leaf : Int) (ao : Option Addr) (m cap : Nat) (w : World) (hm : ps.length = m) (hcap : m ≤ cap) (hb : m ≤ 1048576) (hr : Row w ao ps) :
    Calls Try.prog 46 #[.int .i64 root, .int .i64 n, .int .i64 i, .int .i64 leaf, .slice ao m cap] w fun e w' => e = .returned (.bool (Tm.treCheck root n i leaf ps)) ∧ Below w.heap.size w w' := by
  have HR := hide hr
  clear hr
  go_enter Try.func46, Try.ntmps46
  go_wp2_with fail
  refine (c49 ps n i leaf _ m cap _ hm hcap hb (unhide HR)).mono ?_
  rintro e w1 ⟨rfl, hb1⟩
  have HB := hide hb1
  clear hb1
  rcases hu : Tm.treUp n i leaf ps with _ | y
  · have Hu := hide hu
    clear hu
    simp only [upVal, Option.isSome_none, Option.getD_none]
    go_wp2_with fail
    go_ret
    exact ⟨ret_bool (by unfold Tm.treCheck; rw [unhide Hu]; rfl), unhide HB⟩
  · have Hu := hide hu
    clear hu
    simp only [upVal, Option.isSome_some, Option.getD_some]
    go_wp2_with fail
    go_ret
    exact ⟨ret_bool (by unfold Tm.treCheck; rw [unhide Hu]; rfl), unhide HB⟩

set_option maxHeartbeats 2000000 in
theorem law20 (ps : List Int) (n i leaf : Int) (ao : Option Addr) (m cap : Nat) (w : World) (hm : ps.length = m) (hcap : m ≤ cap) (hmx : cap ≤ maxLen) (hr : Row w ao ps) :
    Calls Try.prog 20 #[.int .i64 n, .int .i64 i, .int .i64 leaf, .slice ao m cap] w (Holds w) := by
  unfold maxLen at hmx
  have HR := hide hr
  have HM := hide hm
  clear hr hm
  by_cases hbig : (1048576 : Int) < (m : Int)
  · go_enter Try.func20, Try.ntmps20
    go_wp2_with fail
    go_ret
    exact ⟨rfl, Below.refl _ _⟩
  go_enter Try.func20, Try.ntmps20
  go_wp2_with fail
  refine (copy_any ps ao m cap _ (unhide HM) (by omega) (unhide HR)).mono ?_
  rintro e w1 ⟨rfl, hr1, hb1⟩
  have HR1 := hide hr1
  have HRa := hide ((unhide HR).below hb1 (Nat.le_refl _))
  have HB1 := hide hb1
  clear hr1 hb1
  go_wp2_with fail
  refine (c51 ps n i leaf _ m m _ (unhide HM) (Nat.le_refl _) (by omega) (unhide HR1)).mono ?_
  rintro e w1' ⟨rfl, rfl⟩
  simp only [upVal]
  go_wp2_with fail
  refine (copy_any ps ao m cap _ (unhide HM) (by omega) (unhide HRa)).mono ?_
  rintro e w2 ⟨rfl, hr2, hb2⟩
  have HR2 := hide hr2
  have HRb := hide ((unhide HRa).below hb2 (Nat.le_refl _))
  have HB2 := hide (below_then (unhide HB1) hb2)
  clear hr2 hb2
  go_wp2_with fail
  refine (c49 ps n i leaf _ m m _ (unhide HM) (Nat.le_refl _) (by omega) (unhide HR2)).mono ?_
  rintro e w3 ⟨rfl, hb3⟩
  simp only [upVal]
  have HRc := hide ((unhide HRb).below hb3 (Nat.le_refl _))
  have HR3 := hide ((unhide HR2).below hb3 (Nat.le_refl _))
  have HB3 := hide (below_then (unhide HB2) hb3)
  clear hb3
  generalize (Tm.treUp n i leaf ps).getD 0 = x
  generalize (Tm.treUp n i leaf ps).isSome = o
  go_wp2_with fail
  refine (copy_any ps ao m cap _ (unhide HM) (by omega) (unhide HRc)).mono ?_
  rintro e w4 ⟨rfl, hr4, hb4⟩
  have HR4 := hide hr4
  have HR5 := hide ((unhide HR3).below hb4 (Nat.le_refl _))
  have HB4 := hide (below_then (unhide HB3) hb4)
  clear hr4 hb4
  go_wp2_with fail
  refine (c56 ps ps _ _ m m m m _ (unhide HM) (unhide HM) (by omega) (by omega) (unhide HR5) (unhide HR4)).mono ?_
  rintro e w5 ⟨rfl, q, rfl⟩
  rw [decide_self]
  have HB5 := hide (below_drewN (unhide HB4) q)
  go_wp2_with fail
  go_ret
  exact ⟨rfl, unhide HB5⟩

set_option maxHeartbeats 2000000 in
theorem law21 (ps : List Int) (root n i leaf : Int) (ao : Option Addr) (m cap : Nat) (w : World) (hm : ps.length = m) (hcap : m ≤ cap) (hmx : cap ≤ maxLen) (hr : Row w ao ps) :
    Calls Try.prog 21 #[.int .i64 root, .int .i64 n, .int .i64 i, .int .i64 leaf, .slice ao m cap] w (Holds w) := by
  unfold maxLen at hmx
  have HR := hide hr
  have HM := hide hm
  clear hr hm
  by_cases hbig : (1048576 : Int) < (m : Int)
  · go_enter Try.func21, Try.ntmps21
    go_wp2_with fail
    go_ret
    exact ⟨rfl, Below.refl _ _⟩
  go_enter Try.func21, Try.ntmps21
  go_wp2_with fail
  refine (copy_any ps ao m cap _ (unhide HM) (by omega) (unhide HR)).mono ?_
  rintro e w1 ⟨rfl, hr1, hb1⟩
  have HR1 := hide hr1
  have HRa := hide ((unhide HR).below hb1 (Nat.le_refl _))
  have HB1 := hide hb1
  clear hr1 hb1
  go_wp2_with fail
  refine (c48 ps root n i leaf _ m m _ (unhide HM) (Nat.le_refl _) (by omega) (unhide HR1)).mono ?_
  rintro e w1' ⟨rfl, rfl⟩
  go_wp2_with fail
  refine (copy_any ps ao m cap _ (unhide HM) (by omega) (unhide HRa)).mono ?_
  rintro e w2 ⟨rfl, hr2, hb2⟩
  have HR2 := hide hr2
  have HRb := hide ((unhide HRa).below hb2 (Nat.le_refl _))
  have HB2 := hide (below_then (unhide HB1) hb2)
  clear hr2 hb2
  go_wp2_with fail
  refine (c46 ps root n i leaf _ m m _ (unhide HM) (Nat.le_refl _) (by omega) (unhide HR2)).mono ?_
  rintro e w3 ⟨rfl, hb3⟩
  have HRc := hide ((unhide HRb).below hb3 (Nat.le_refl _))
  have HR3 := hide ((unhide HR2).below hb3 (Nat.le_refl _))
  have HB3 := hide (below_then (unhide HB2) hb3)
  clear hb3
  generalize Tm.treCheck root n i leaf ps = o
  go_wp2_with fail
  refine (copy_any ps ao m cap _ (unhide HM) (by omega) (unhide HRc)).mono ?_
  rintro e w4 ⟨rfl, hr4, hb4⟩
  have HR4 := hide hr4
  have HR5 := hide ((unhide HR3).below hb4 (Nat.le_refl _))
  have HB4 := hide (below_then (unhide HB3) hb4)
  clear hr4 hb4
  go_wp2_with fail
  refine (c56 ps ps _ _ m m m m _ (unhide HM) (unhide HM) (by omega) (by omega) (unhide HR5) (unhide HR4)).mono ?_
  rintro e w5 ⟨rfl, q, rfl⟩
  rw [decide_self]
  have HB5 := hide (below_drewN (unhide HB4) q)
  go_wp2_with fail
  go_ret
  exact ⟨rfl, unhide HB5⟩
end Go.Proofs.Ytiockogogfoojaa
