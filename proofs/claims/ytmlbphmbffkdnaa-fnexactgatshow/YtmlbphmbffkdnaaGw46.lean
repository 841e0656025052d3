/-
  Texts of the proof, what it needs of them: Ownc.
-/
import Derived.Test.YtmlbphmbffkdnaaGw12
import Derived.Test.YtmlbphmbffkdnaaGw18
namespace Go.Proofs.Ytmlbphmbffkdnaa
open Go.RowKit
set_option linter.unusedVariables false
set_option maxRecDepth 100000

def Tm.ownCheck (root t : Int) (r : Tm.Rw) (ps : List Int) : Bool := if 0 ≤ t ∧ t ≤ 7 then Tm.treCheck root 8 t (Tm.ownLeaf t r) ps else false
theorem ownCheck_of {root t : Int} {r : Tm.Rw} {ps : List Int} (h : 0 ≤ t ∧ t ≤ 7) : Tm.ownCheck root t r ps = Tm.treCheck root 8 t (Tm.ownLeaf t r) ps := by unfold Tm.ownCheck; rw [if_pos h]
theorem ownCheck_no {root t : Int} {r : Tm.Rw} {ps : List Int} (h : ¬ (0 ≤ t ∧ t ≤ 7)) : Tm.ownCheck root t r ps = false := by unfold Tm.ownCheck; rw [if_neg h]

set_option maxHeartbeats 800000 in
theorem c171 (ps : List Int) (root t a c : Int) (d : Bool) (ao : Option Addr) (n cap : Nat) (w : World) (hn : ps.length = n) (hcap : n ≤ cap) (hm : n ≤ 1048576) (hf : FitR (a, c, d)) (hr : Row w ao ps) :
    Calls Try.prog 171 #[.int .i64 root, .int .i64 t, rowV a c d, .slice ao n cap] w fun e w' => e = .returned (.bool (Tm.ownCheck root t (a, c, d) ps)) ∧ Below w.heap.size w w' := by
  have HF := hide hf
  have HR := hide hr
  have HN := hide hn
  clear hf hr hn
  by_cases h0 : 0 ≤ t ∧ t ≤ 7
  · have HE := hide (ownCheck_of (root := root) (r := (a, c, d)) (ps := ps) h0)
    have d0 : decide (0 ≤ t ∧ t ≤ 7) = true := by simpa using h0
    clear h0
    go_enter Try.func171, Try.ntmps171
    go_wp2_with (go_at_call 133; refine (c133 _ _).mono ?_; rintro e w' ⟨rfl, rfl⟩)
    refine (c210 t a c d _ (unhide HF)).mono ?_
    rintro e w1 ⟨rfl, hb1⟩
    have HB1 := hide (below_tr (below_a _) hb1)
    clear hb1
    generalize hy : Tm.ownLeaf t (a, c, d) = y at *
    have HY := hide hy
    clear hy
    go_wp2_with fail
    refine (c209 ps root 8 t y ao n cap _ HN.out hcap hm ((unhide HR).bel (unhide HB1))).mono ?_
    rintro e w2 ⟨rfl, hb2⟩
    have HB2 := hide (below_tr (unhide HB1) hb2)
    clear hb2 HB1
    generalize hz : Tm.treCheck root 8 t y ps = z at *
    have HZ := hide hz
    clear hz
    go_wp2_with fail
    go_ret
    exact ⟨ret_bool (by rw [unhide HE]), unhide HB2⟩
  · have HE := hide (ownCheck_no (root := root) (r := (a, c, d)) (ps := ps) h0)
    have d0 : decide (0 ≤ t ∧ t ≤ 7) = false := by simpa using h0
    clear h0
    go_enter Try.func171, Try.ntmps171
    go_wp2_with (go_at_call 133; refine (c133 _ _).mono ?_; rintro e w' ⟨rfl, rfl⟩)
    go_ret
    exact ⟨ret_bool (unhide HE).symm, below_a _⟩

set_option maxHeartbeats 800000 in
theorem c170 (ps : List Int) (root t a c : Int) (d : Bool) (ao : Option Addr) (n cap : Nat) (w : World) (hn : ps.length = n) (hcap : n ≤ cap) (hm : n ≤ 1048576) (hf : FitR (a, c, d)) (hr : Row w ao ps) :
    Calls Try.prog 170 #[.int .i64 root, .int .i64 t, rowV a c d, .slice ao n cap] w fun e w' => e = .returned (.bool (Tm.ownCheck root t (a, c, d) ps)) ∧ Below w.heap.size w w' := by
  have HF := hide hf
  have HR := hide hr
  have HN := hide hn
  clear hf hr hn
  by_cases h0 : 0 ≤ t ∧ t ≤ 7
  · have HE := hide (ownCheck_of (root := root) (r := (a, c, d)) (ps := ps) h0)
    have d0 : decide (0 ≤ t ∧ t ≤ 7) = true := by simpa using h0
    clear h0
    go_enter Try.func170, Try.ntmps170
    go_wp2_with (go_at_call 109; refine (c109 _ _ _ _).mono ?_; rintro e w' ⟨rfl, rfl⟩)
    refine (c208 t a c d _ (unhide HF)).mono ?_
    rintro e w1 ⟨rfl, hb1⟩
    have HB1 := hide (below_tr (below_a _) hb1)
    clear hb1
    generalize hy : Tm.ownLeaf t (a, c, d) = y at *
    have HY := hide hy
    clear hy
    go_wp2_with fail
    refine (c207 ps root 8 t y ao n cap _ HN.out hcap hm ((unhide HR).bel (unhide HB1))).mono ?_
    rintro e w2 ⟨rfl, hb2⟩
    subst hb2
    have HB2 := HB1
    clear HB1
    generalize hz : Tm.treCheck root 8 t y ps = z at *
    have HZ := hide hz
    clear hz
    go_wp2_with fail
    go_ret
    exact ⟨ret_bool (by rw [unhide HE]), unhide HB2⟩
  · have HE := hide (ownCheck_no (root := root) (r := (a, c, d)) (ps := ps) h0)
    have d0 : decide (0 ≤ t ∧ t ≤ 7) = false := by simpa using h0
    clear h0
    go_enter Try.func170, Try.ntmps170
    go_wp2_with (go_at_call 109; refine (c109 _ _ _ _).mono ?_; rintro e w' ⟨rfl, rfl⟩)
    go_ret
    exact ⟨ret_bool (unhide HE).symm, below_a _⟩

end Go.Proofs.Ytmlbphmbffkdnaa
