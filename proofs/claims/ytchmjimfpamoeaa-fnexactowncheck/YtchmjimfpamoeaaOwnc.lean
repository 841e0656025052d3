/-
  The walks of OwnCheck, the program's and the model's, and of its exact law.
-/
import Derived.Test.YtchmjimfpamoeaaKeep
import Derived.Test.YtchmjimfpamoeaaOwna
import Derived.Test.YtchmjimfpamoeaaChecks
import Derived.Test.YtchmjimfpamoeaaBoxy
namespace Go.Proofs.Ytchmjimfpamoeaa
open Go.RowKit
set_option linter.unusedVariables false
set_option maxRecDepth 100000

def Tm.ownCheck (root t : Int) (r : Tm.Rw) (ps : List Int) : Bool := if 0 ≤ t ∧ t ≤ 7 then Tm.treCheck root 8 t (Tm.ownLeaf t r) ps else false
theorem ownCheck_of {root t : Int} {r : Tm.Rw} {ps : List Int} (h : 0 ≤ t ∧ t ≤ 7) : Tm.ownCheck root t r ps = Tm.treCheck root 8 t (Tm.ownLeaf t r) ps := by unfold Tm.ownCheck; rw [if_pos h]
theorem ownCheck_no {root t : Int} {r : Tm.Rw} {ps : List Int} (h : ¬ (0 ≤ t ∧ t ≤ 7)) : Tm.ownCheck root t r ps = false := by unfold Tm.ownCheck; rw [if_neg h]

set_option maxHeartbeats 800000 in
theorem c66 (ps : List Int) (root t a c : Int) (d : Bool) (ao : Option Addr) (n cap : Nat) (w : World) (hn : ps.length = n) (hcap : n ≤ cap) (hm : n ≤ 1048576) (hf : FitR (a, c, d)) (hr : Row w ao ps) :
    Calls Try.prog 66 #[.int .i64 root, .int .i64 t, rowV a c d, .slice ao n cap] w fun e w' => e = .returned (.bool (Tm.ownCheck root t (a, c, d) ps)) ∧ Below w.heap.size w w' := by
  have HF := hide hf
  have HR := hide hr
  have HN := hide hn
  clear hf hr hn
  by_cases h0 : 0 ≤ t ∧ t ≤ 7
  · have HE := hide (ownCheck_of (root := root) (r := (a, c, d)) (ps := ps) h0)
    have d0 : decide (0 ≤ t ∧ t ≤ 7) = true := by simpa using h0
    clear h0
    go_enter Try.func66, Try.ntmps66
    go_wp2_with (go_at_call 120; refine (c120 _ _).mono ?_; rintro e w' ⟨rfl, rfl⟩)
    refine (c65 t a c d _ (unhide HF)).mono ?_
    rintro e w1 ⟨rfl, hb1⟩
    have HB1 := hide (below_tr (below_a _) hb1)
    clear hb1
    generalize hy : Tm.ownLeaf t (a, c, d) = y at *
    have HY := hide hy
    clear hy
    go_wp2_with fail
    refine (c69 ps root 8 t y ao n cap _ HN.out hcap hm ((unhide HR).bel (unhide HB1))).mono ?_
    rintro e w2 ⟨rfl, hb2⟩
    have HB2 := hide (below_tr (unhide HB1) hb2)
    clear hb2 HB1
    generalize hz : Tm.treCheck root 8 t y ps = z at *
    have HZ := hide hz
    clear hz
    go_wp2_with fail
    go_ret
    exact ⟨ret_bool (by rw [unhide HE]), unhide HB2⟩
  · have HE := hide (ownCheck_no (root := root) (r := (a, c, d)) (ps := ps) h0)
    have d0 : decide (0 ≤ t ∧ t ≤ 7) = false := by simpa using h0
    clear h0
    go_enter Try.func66, Try.ntmps66
    go_wp2_with (go_at_call 120; refine (c120 _ _).mono ?_; rintro e w' ⟨rfl, rfl⟩)
    go_ret
    exact ⟨ret_bool (unhide HE).symm, below_a _⟩

set_option maxHeartbeats 800000 in
theorem c68 (ps : List Int) (root t a c : Int) (d : Bool) (ao : Option Addr) (n cap : Nat) (w : World) (hn : ps.length = n) (hcap : n ≤ cap) (hm : n ≤ 1048576) (hf : FitR (a, c, d)) (hr : Row w ao ps) :
    Calls Try.prog 68 #[.int .i64 root, .int .i64 t, rowV a c d, .slice ao n cap] w fun e w' => e = .returned (.bool (Tm.ownCheck root t (a, c, d) ps)) ∧ Below w.heap.size w w' := by
  have HF := hide hf
  have HR := hide hr
  have HN := hide hn
  clear hf hr hn
  by_cases h0 : 0 ≤ t ∧ t ≤ 7
  · have HE := hide (ownCheck_of (root := root) (r := (a, c, d)) (ps := ps) h0)
    have d0 : decide (0 ≤ t ∧ t ≤ 7) = true := by simpa using h0
    clear h0
    go_enter Try.func68, Try.ntmps68
    go_wp2_with (go_at_call 98; refine (c98 _ _ _ _).mono ?_; rintro e w' ⟨rfl, rfl⟩)
    refine (c73 t a c d _ (unhide HF)).mono ?_
    rintro e w1 ⟨rfl, hb1⟩
    have HB1 := hide (below_tr (below_a _) hb1)
    clear hb1
    generalize hy : Tm.ownLeaf t (a, c, d) = y at *
    have HY := hide hy
    clear hy
    go_wp2_with fail
    refine (c124 ps root 8 t y ao n cap _ HN.out hcap hm ((unhide HR).bel (unhide HB1))).mono ?_
    rintro e w2 ⟨rfl, hb2⟩
    subst hb2
    have HB2 := HB1
    clear HB1
    generalize hz : Tm.treCheck root 8 t y ps = z at *
    have HZ := hide hz
    clear hz
    go_wp2_with fail
    go_ret
    exact ⟨ret_bool (by rw [unhide HE]), unhide HB2⟩
  · have HE := hide (ownCheck_no (root := root) (r := (a, c, d)) (ps := ps) h0)
    have d0 : decide (0 ≤ t ∧ t ≤ 7) = false := by simpa using h0
    clear h0
    go_enter Try.func68, Try.ntmps68
    go_wp2_with (go_at_call 98; refine (c98 _ _ _ _).mono ?_; rintro e w' ⟨rfl, rfl⟩)
    go_ret
    exact ⟨ret_bool (unhide HE).symm, below_a _⟩

set_option maxHeartbeats 4000000 in
theorem law26 (ps : List Int) (root t a c : Int) (d : Bool) (ao : Option Addr) (n cap : Nat) (w : World) (hn : ps.length = n) (hcap : n ≤ cap) (hmx : cap ≤ maxLen) (hf : FitR (a, c, d)) (hr : Row w ao ps) :
    Calls Try.prog 26 #[.int .i64 root, .int .i64 t, rowV a c d, .slice ao n cap] w (Holds w) := by
  unfold maxLen at hmx
  have HF := hide hf
  have HA := hide hr
  have HN := hide hn
  clear hf hr hn
  by_cases hbig : (1048576 : Int) < (n : Int)
  · go_enter Try.func26, Try.ntmps26
    go_wp2_with fail
    go_ret
    exact ⟨rfl, below_a _⟩
  have hbig' : n ≤ 1048576 := by omega
  go_enter Try.func26, Try.ntmps26
  go_wp2_with fail
  refine (c94 a c d _).mono ?_
  rintro e w1 ⟨rfl, hb1⟩
  have HX1 := hide ((box_new w [.int .i64 a, .int .i64 c, .bool d] 85 (by simp [Value.oneCell'])).below hb1)
  have HB1 := hide (below_tr (below_a _) hb1)
  clear hb1
  go_wp2_with fail
  refine (c95 ps ao n cap _ HN.out hbig' ((unhide HA).bel (unhide HB1))).mono ?_
  rintro e w2 ⟨rfl, hx2, hb2⟩
  have HT2 := hide (own_rowI hx2)
  have HB2 := hide (below_tr (unhide HB1) hb2)
  have HX2 := hide ((unhide HX1).below hb2)
  clear hb2 HB1 HX1 hx2
  go_wp2_with fail
  refine (c68 ps root t a c d _ n n _ HN.out (Nat.le_refl _) hbig' (unhide HF) (unhide HT2)).mono ?_
  rintro e w3 ⟨rfl, hb3⟩
  have HB3 := hide (below_tr (unhide HB2) hb3)
  have HX3 := hide ((unhide HX2).below hb3)
  clear hb3 HB2 HX2 HT2
  go_wp2_with fail
  refine (c95 ps ao n cap _ HN.out hbig' ((unhide HA).bel (unhide HB3))).mono ?_
  rintro e w4 ⟨rfl, hx4, hb4⟩
  have HT4 := hide (own_rowI hx4)
  have HB4 := hide (below_tr (unhide HB3) hb4)
  have HX4 := hide ((unhide HX3).below hb4)
  clear hb4 HB3 HX3 hx4
  have g0 := (unhide HX4).cell 0 rfl
  have g1 := (unhide HX4).cell 1 rfl
  have g2 := (unhide HX4).cell 2 rfl
  go_wp2_with fail
  refine (c94 a c d _).mono ?_
  rintro e w5 ⟨rfl, hb5⟩
  have HT5 := hide ((unhide HT4).bel hb5)
  have HB5 := hide (below_tr (unhide HB4) hb5)
  clear hb5 HB4 HX4 HT4 g0 g1 g2
  go_wp2_with fail
  refine (c66 ps root t a c d _ n n _ HN.out (Nat.le_refl _) hbig' (unhide HF) (unhide HT5)).mono ?_
  rintro e w6 ⟨rfl, hb6⟩
  have HT6 := hide ((unhide HT5).bel hb6)
  have HB6 := hide (below_tr (unhide HB5) hb6)
  clear hb6 HB5 HT5
  go_wp2_with fail
  refine (c95 ps ao n cap _ HN.out hbig' ((unhide HA).bel (unhide HB6))).mono ?_
  rintro e w7 ⟨rfl, hx7, hb7⟩
  have HT7 := hide ((unhide HT6).bel hb7)
  have HC7 := hide (own_rowI hx7)
  have HB7 := hide (below_tr (unhide HB6) hb7)
  clear hb7 HB6 HT6 hx7
  go_wp2_with fail
  refine (sameI ps _ _ _ _ _ _ HN.out hbig' (unhide HT7) (unhide HC7)).mono ?_
  rintro e w8 ⟨rfl, hb8⟩
  have HB8 := hide (below_tr (unhide HB7) hb8)
  clear hb8 HB7 HT7 HC7
  go_wp2_with fail
  go_ret
  exact ⟨rfl, unhide HB8⟩
end Go.Proofs.Ytchmjimfpamoeaa
