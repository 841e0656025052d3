/-
  Texts of the proof, what it needs of them: Enta.
-/
import Derived.Test.YtmlbphmbffkdnaaGw03
namespace Go.Proofs.Ytmlbphmbffkdnaa
open Go.RowKit
set_option linter.unusedVariables false

set_option maxHeartbeats 400000 in
theorem c133 (t : Int) (w : World) : Calls Try.prog 133 #[.int .i64 t] w fun e w' => e = .returned (.bool (decide (0 ≤ t ∧ t ≤ 7))) ∧ w' = w := by
  by_cases h0 : 0 ≤ t
  · go_enter Try.func133, Try.ntmps133
    go_wp2_with fail
    go_ret
    exact ⟨ret_bool (by first | rfl | (simp; done) | (simp; omega) | (rw [Bool.eq_iff_iff]; simp; done) | (rw [Bool.eq_iff_iff]; simp; omega)), rfl⟩
  · have h1 : decide (0 ≤ t) = false := by simpa using h0
    go_enter Try.func133, Try.ntmps133
    go_wp2_with fail
    go_ret
    exact ⟨ret_bool (by first | rfl | (simp; done) | (simp; omega) | (rw [Bool.eq_iff_iff]; simp; done) | (rw [Bool.eq_iff_iff]; simp; omega)), rfl⟩
set_option maxHeartbeats 400000 in
theorem c132 (t : Int) (w : World) : Calls Try.prog 132 #[.int .i64 t] w fun e w' => e = .returned (.bool (decide (1 ≤ t ∧ t ≤ 5))) ∧ w' = w := by
  by_cases h0 : 1 ≤ t
  · go_enter Try.func132, Try.ntmps132
    go_wp2_with fail
    go_ret
    exact ⟨ret_bool (by first | rfl | (simp; done) | (simp; omega) | (rw [Bool.eq_iff_iff]; simp; done) | (rw [Bool.eq_iff_iff]; simp; omega)), rfl⟩
  · have h1 : decide (1 ≤ t) = false := by simpa using h0
    go_enter Try.func132, Try.ntmps132
    go_wp2_with fail
    go_ret
    exact ⟨ret_bool (by first | rfl | (simp; done) | (simp; omega) | (rw [Bool.eq_iff_iff]; simp; done) | (rw [Bool.eq_iff_iff]; simp; omega)), rfl⟩

/-- an entry as a value -/
abbrev entV (k t u p : Int) : Value := .agg #[.int .i64 k, .int .i64 t, .int .i64 u, .int .i64 p]
theorem below_a {w : World} (o : Obj) : Below w.heap.size w (w.alloc o) := (Below.refl _ _).alloc (Nat.le_refl _) _
theorem below_al {A W : World} {o : Obj} (h : Below A.heap.size A W) : Below A.heap.size A (W.alloc o) := h.alloc h.size _
theorem below_dn {A W : World} (h : Below A.heap.size A W) (n : Nat) : Below A.heap.size A (W.drewN n) := ⟨h.os, h.tape, h.output, h.size, h.block⟩
theorem below_tr {A W V : World} (h : Below A.heap.size A W) (k : Below W.heap.size W V) : Below A.heap.size A V := h.trans (k.mono h.size)

end Go.Proofs.Ytmlbphmbffkdnaa
namespace Go.Proofs.Ytmlbphmbffkdnaa
open Go.RowKit
set_option linter.unusedVariables false

/-- an entry as one of its kind -/
def kindV (k t u p : Int) : Value := if k = 1 then .iface 217 (entV k t u p) else if k = 2 then .iface 218 (entV k t u p) else if k = 3 then .iface 219 (entV k t u p) else .nilIface

set_option maxHeartbeats 400000 in
theorem c214 (k t u p : Int) (w : World) : Calls Try.prog 214 #[entV k t u p] w fun e w' => e = .returned (kindV k t u p) ∧ Below w.heap.size w w' := by
  by_cases h1 : k = 1
  · subst h1
    go_enter Try.func214, Try.ntmps214
    go_wp2_with fail
    go_ret
    exact ⟨rfl, below_a _⟩
  by_cases h2 : k = 2
  · subst h2
    go_enter Try.func214, Try.ntmps214
    go_wp2_with fail
    go_ret
    exact ⟨rfl, below_a _⟩
  by_cases h3 : k = 3
  · subst h3
    go_enter Try.func214, Try.ntmps214
    go_wp2_with fail
    go_ret
    exact ⟨rfl, below_a _⟩
  · have b1 : (k == 1) = false := by simpa using h1
    have b2 : (k == 2) = false := by simpa using h2
    have b3 : (k == 3) = false := by simpa using h3
    have HK : Hid (kindV k t u p = .nilIface) := by unfold Hid kindV; rw [if_neg h1, if_neg h2, if_neg h3]
    clear h1 h2 h3
    go_enter Try.func214, Try.ntmps214
    go_wp2_with fail
    go_ret
    exact ⟨by rw [HK.out]; rfl, below_a _⟩

end Go.Proofs.Ytmlbphmbffkdnaa
namespace Go.Proofs.Ytmlbphmbffkdnaa
open Go.RowKit
set_option linter.unusedVariables false

def FitsE (k t u p : Int) : Prop := (-9223372036854775808 ≤ k ∧ k ≤ 9223372036854775807) ∧ (-9223372036854775808 ≤ t ∧ t ≤ 9223372036854775807) ∧ (-9223372036854775808 ≤ u ∧ u ≤ 9223372036854775807) ∧ (-9223372036854775808 ≤ p ∧ p ≤ 9223372036854775807)
/-- a literal list of four numbers, just made -/
theorem row_new4 (w : World) (a b c d : Int) (h : FitsE a b c d) (t : TypeId) : Row (w.alloc (.cells #[.int .i64 a, .int .i64 b, .int .i64 c, .int .i64 d] t)) (some ⟨w.heap.size, 0, none⟩) [a, b, c, d] := by
  refine ⟨fun z hz => ?_, fun _ => ⟨w.heap.size, 0, rfl, fun k hk => ?_⟩⟩
  · obtain ⟨h1, h2, h3, h4⟩ := h
    simp at hz
    rcases hz with rfl | rfl | rfl | rfl <;> assumption
  · simp only [List.length_cons, List.length_nil] at hk
    rw [World.cell?_alloc_new]
    obtain rfl | rfl | rfl | rfl : k = 0 ∨ k = 1 ∨ k = 2 ∨ k = 3 := by omega
    all_goals rfl

end Go.Proofs.Ytmlbphmbffkdnaa
