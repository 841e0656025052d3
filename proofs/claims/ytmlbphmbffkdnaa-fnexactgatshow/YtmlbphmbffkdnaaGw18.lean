/-
  Texts of the proof, what it needs of them: Owna.
-/
import Derived.Test.YtmlbphmbffkdnaaGw09
import Derived.Test.YtmlbphmbffkdnaaGw17
namespace Go.Proofs.Ytmlbphmbffkdnaa
open Go.RowKit
set_option linter.unusedVariables false
set_option maxRecDepth 100000

def usedI (b : Bool) : Int := if b then 1 else 0
/-- the leaf of how a ticket stands -/
def Tm.ownLeaf (t : Int) (r : Tm.Rw) : Int := if 0 ≤ t ∧ t ≤ 7 then Tm.leaf [1000 + t, r.1, r.2.1, usedI r.2.2] else 0
theorem ownLeaf_of {t a c : Int} {d : Bool} (h : 0 ≤ t ∧ t ≤ 7) : Tm.ownLeaf t (a, c, d) = Tm.leaf [1000 + t, a, c, usedI d] := by unfold Tm.ownLeaf; rw [if_pos h]
theorem ownLeaf_no {t : Int} {r : Tm.Rw} (h : ¬ (0 ≤ t ∧ t ≤ 7)) : Tm.ownLeaf t r = 0 := by unfold Tm.ownLeaf; rw [if_neg h]
theorem fit_own {t a c : Int} {d : Bool} (h : 0 ≤ t ∧ t ≤ 7) (hf : FitR (a, c, d)) : FitsE (1000 + t) a c (usedI d) := by
  refine ⟨by omega, hf.1, hf.2, ?_⟩
  cases d <;> simp [usedI]
theorem r_at {rs : List Tm.Rw} {k : Nat} (h : k < rs.length) : ∃ a c d, rs[k]? = some (a, c, d) := ⟨rs[k].1, rs[k].2.1, rs[k].2.2, List.getElem?_eq_getElem h⟩

set_option maxHeartbeats 800000 in
theorem c210 (t a c : Int) (d : Bool) (w : World) (hf : FitR (a, c, d)) : Calls Try.prog 210 #[.int .i64 t, rowV a c d] w fun e w' => e = .returned (.int .i64 (Tm.ownLeaf t (a, c, d))) ∧ Below w.heap.size w w' := by
  by_cases h0 : 0 ≤ t ∧ t ≤ 7
  · have HE := hide (ownLeaf_of (a := a) (c := c) (d := d) h0)
    have HF := hide (fit_own h0 hf)
    have d0 : decide (0 ≤ t ∧ t ≤ 7) = true := by simpa using h0
    obtain ⟨t0, t1⟩ := h0
    clear hf
    cases d
    all_goals
      go_enter Try.func210, Try.ntmps210
      go_wp2_with (go_at_call 133; refine (c133 _ _).mono ?_; rintro e w' ⟨rfl, rfl⟩)
      first
        | refine (c238 [1000 + t, a, c, 0] _ _ _ _ rfl (by simp) (by first | exact row_new4 _ _ _ _ _ (unhide HF) _ | (have := row_new4 (w.alloc (.cells #[.int .i64 a, .int .i64 c, .bool false] 112)) (1000 + t) a c 0 (unhide HF) 3; simpa using this))).mono ?_
        | refine (c238 [1000 + t, a, c, 1] _ _ _ _ rfl (by simp) (by first | exact row_new4 _ _ _ _ _ (unhide HF) _ | (have := row_new4 (w.alloc (.cells #[.int .i64 a, .int .i64 c, .bool true] 112)) (1000 + t) a c 1 (unhide HF) 3; simpa using this))).mono ?_
      rintro e w1 ⟨rfl, rfl⟩
      go_wp2_with fail
      go_ret
      exact ⟨ret_int (by rw [unhide HE]; rfl), below_al (below_a _)⟩
  · have HE := hide (ownLeaf_no (r := (a, c, d)) h0)
    have d0 : decide (0 ≤ t ∧ t ≤ 7) = false := by simpa using h0
    clear h0 hf
    go_enter Try.func210, Try.ntmps210
    go_wp2_with (go_at_call 133; refine (c133 _ _).mono ?_; rintro e w' ⟨rfl, rfl⟩)
    go_ret
    exact ⟨ret_int (unhide HE).symm, below_a _⟩

set_option maxHeartbeats 800000 in
theorem c208 (t a c : Int) (d : Bool) (w : World) (hf : FitR (a, c, d)) : Calls Try.prog 208 #[.int .i64 t, rowV a c d] w fun e w' => e = .returned (.int .i64 (Tm.ownLeaf t (a, c, d))) ∧ Below w.heap.size w w' := by
  by_cases h0 : 0 ≤ t ∧ t ≤ 7
  · have HE := hide (ownLeaf_of (a := a) (c := c) (d := d) h0)
    have HF := hide (fit_own h0 hf)
    have d0 : decide (0 ≤ t ∧ t ≤ 7) = true := by simpa using h0
    obtain ⟨t0, t1⟩ := h0
    clear hf
    cases d
    all_goals
      go_enter Try.func208, Try.ntmps208
      go_wp2_with (go_at_call 109; refine (c109 _ _ _ _).mono ?_; rintro e w' ⟨rfl, rfl⟩)
      first
        | refine (c236 [1000 + t, a, c, 0] _ _ _ _ rfl (by simp) (by first | exact row_new4 _ _ _ _ _ (unhide HF) _ | (have := row_new4 (w.alloc (.cells #[.int .i64 a, .int .i64 c, .bool false] 112)) (1000 + t) a c 0 (unhide HF) 3; simpa using this))).mono ?_
        | refine (c236 [1000 + t, a, c, 1] _ _ _ _ rfl (by simp) (by first | exact row_new4 _ _ _ _ _ (unhide HF) _ | (have := row_new4 (w.alloc (.cells #[.int .i64 a, .int .i64 c, .bool true] 112)) (1000 + t) a c 1 (unhide HF) 3; simpa using this))).mono ?_
      rintro e w1 ⟨rfl, rfl⟩
      go_wp2_with fail
      go_ret
      exact ⟨ret_int (by rw [unhide HE]; rfl), below_al (below_a _)⟩
  · have HE := hide (ownLeaf_no (r := (a, c, d)) h0)
    have d0 : decide (0 ≤ t ∧ t ≤ 7) = false := by simpa using h0
    clear h0 hf
    go_enter Try.func208, Try.ntmps208
    go_wp2_with (go_at_call 109; refine (c109 _ _ _ _).mono ?_; rintro e w' ⟨rfl, rfl⟩)
    go_ret
    exact ⟨ret_int (unhide HE).symm, below_a _⟩

end Go.Proofs.Ytmlbphmbffkdnaa
namespace Go.Proofs.Ytmlbphmbffkdnaa
open Go.RowKit
set_option linter.unusedVariables false
set_option maxRecDepth 100000

end Go.Proofs.Ytmlbphmbffkdnaa
namespace Go.Proofs.Ytmlbphmbffkdnaa
open Go.RowKit
set_option linter.unusedVariables false
set_option maxRecDepth 100000

end Go.Proofs.Ytmlbphmbffkdnaa
