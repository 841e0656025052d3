/-
  The walks of chapter 5 at one row: what may follow on it, and how it stands behind an entry.
-/
import Derived.Test.YtjdnengmllamcaaOwno
import Derived.Test.YtjdnengmllamcaaBoxy
import Derived.Deep.QuietTactic
import Derived.BigQuiet
namespace Go.Proofs.Ytjdnengmllamcaa
open Go.RowKit
set_option linter.unusedVariables false
set_option maxRecDepth 100000

set_option maxHeartbeats 400000 in
theorem c167 (a c : Int) (d : Bool) (k t u p : Int) (w : World) : Calls Try.prog 167 #[rowV a c d, entV k t u p] w fun e w' => e = .returned (.bool (decide (a = 0))) ∧ Below w.heap.size w w' := by
  go_enter Try.func167, Try.ntmps167
  go_wp2_with fail
  go_ret
  exact ⟨ret_bool (by first | rfl | (simp; done) | (rw [Bool.eq_iff_iff]; simp; done)), below_al (below_a _)⟩

set_option maxHeartbeats 400000 in
theorem c169 (a c : Int) (d : Bool) (k t u p : Int) (w : World) : Calls Try.prog 169 #[rowV a c d, entV k t u p] w fun e w' => e = .returned (.bool (decide (a = u) && !d)) ∧ Below w.heap.size w w' := by
  by_cases h : a = u
  · subst h
    go_enter Try.func169, Try.ntmps169
    go_wp2_with fail
    go_ret
    exact ⟨ret_bool (by first | rfl | (simp; done)), below_al (below_a _)⟩
  · have b : (a == u) = false := by simpa using h
    have HE := hide (decide_eq_false h)
    clear h
    go_enter Try.func169, Try.ntmps169
    go_wp2_with fail
    go_ret
    exact ⟨ret_bool (by rw [unhide HE]; rfl), below_al (below_a _)⟩

/-- whether an entry that passes a ticket on may follow -/
def passOk (a c : Int) (d : Bool) (u p : Int) : Bool := decide (a ≠ 0 ∧ a ≠ u ∧ d = false ∧ p ≤ Tm.cap c)
theorem below_a2n {w : World} (o o2 : Obj) (n : Nat) : Below w.heap.size w (((w.alloc o).alloc o2).drewN n) := below_dn (below_al (below_a _)) n

set_option maxHeartbeats 2000000 in
theorem c168 (a c : Int) (d : Bool) (k t u p : Int) (w : World) : Calls Try.prog 168 #[rowV a c d, entV k t u p] w fun e w' => e = .returned (.bool (passOk a c d u p)) ∧ Below w.heap.size w w' := by
  by_cases h0 : a = 0
  · subst h0
    have HE : Hid (passOk 0 c d u p = false) := by unfold Hid passOk; rw [decide_eq_false_iff_not]; simp
    go_enter Try.func168, Try.ntmps168
    go_wp2_with fail
    go_quiet (fail)
    go_wp2_with fail
    go_ret
    exact ⟨ret_bool (unhide HE).symm, below_a2n _ _ _⟩
  have b0 : (a != 0) = true := by rw [bne_iff_ne]; exact h0
  by_cases h1 : a = u
  · have HE : Hid (passOk a c d u p = false) := by unfold Hid passOk; rw [decide_eq_false_iff_not]; intro e; exact e.2.1 h1
    have b1 : (a != u) = false := by rw [bne_eq_false_iff_eq]; exact h1
    clear h0 h1
    go_enter Try.func168, Try.ntmps168
    go_wp2_with fail
    go_quiet (fail)
    go_wp2_with fail
    go_ret
    exact ⟨ret_bool (unhide HE).symm, below_a2n _ _ _⟩
  have b1 : (a != u) = true := by rw [bne_iff_ne]; exact h1
  cases d
  · have HE : Hid (passOk a c false u p = decide (p ≤ Tm.cap c)) := by unfold Hid passOk; rw [Bool.eq_iff_iff, decide_eq_true_iff, decide_eq_true_iff]; exact ⟨fun e => e.2.2.2, fun e => ⟨h0, h1, rfl, e⟩⟩
    clear h0 h1
    go_enter Try.func168, Try.ntmps168
    go_wp2_with fail
    go_quiet ((go_at_call 46; exact Calls.quiet_of_same (c46 _ _)))
    go_wp2_with fail
    go_ret
    exact ⟨ret_bool (unhide HE).symm, below_a2n _ _ _⟩
  · have HE : Hid (passOk a c true u p = false) := by unfold Hid passOk; rw [decide_eq_false_iff_not]; intro e; exact absurd e.2.2.1 (by simp)
    clear h0 h1
    go_enter Try.func168, Try.ntmps168
    go_wp2_with fail
    go_quiet (fail)
    go_wp2_with fail
    go_ret
    exact ⟨ret_bool (unhide HE).symm, below_a2n _ _ _⟩
end Go.Proofs.Ytjdnengmllamcaa
