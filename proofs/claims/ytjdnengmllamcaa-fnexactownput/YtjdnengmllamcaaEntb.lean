/-
  The walks of chapter 4 at one entry: its kind, whether it is ok, its leaf.
-/
import Derived.Test.YtjdnengmllamcaaEnta
import Derived.Deep.QuietTactic
import Derived.BigQuiet
namespace Go.Proofs.Ytjdnengmllamcaa
open Go.RowKit
set_option linter.unusedVariables false

theorem below_an {w : World} (o : Obj) (n : Nat) : Below w.heap.size w ((w.alloc o).drewN n) := (below_a o).trans ⟨rfl, rfl, rfl, Nat.le_refl _, fun _ _ => rfl⟩

set_option maxHeartbeats 400000 in
theorem c191 (k t u p : Int) (w : World) : Calls Try.prog 191 #[entV k t u p] w fun e w' => e = .returned (.bool (decide (1 ≤ p ∧ p ≤ 60))) ∧ Below w.heap.size w w' := by
  have hcap : Tm.cap 50 = 60 := by decide
  by_cases h0 : 1 ≤ p
  · go_enter Try.func191, Try.ntmps191
    go_wp2_with fail
    go_quiet ((go_at_call 46; exact Calls.quiet_of_same (c46 _ _)))
    go_wp2_with fail
    go_ret
    exact ⟨ret_bool (by first | rfl | (simp; done) | (simp; omega) | (rw [Bool.eq_iff_iff]; simp; done) | (rw [Bool.eq_iff_iff]; simp; omega)), below_an _ _⟩
  · have h1 : decide (1 ≤ p) = false := by simpa using h0
    go_enter Try.func191, Try.ntmps191
    go_wp2_with fail
    go_quiet (fail)
    go_wp2_with fail
    go_ret
    exact ⟨ret_bool (by first | rfl | (simp; done) | (simp; omega) | (rw [Bool.eq_iff_iff]; simp; done) | (rw [Bool.eq_iff_iff]; simp; omega)), below_an _ _⟩

set_option maxHeartbeats 400000 in
theorem c192 (k t u p : Int) (w : World) : Calls Try.prog 192 #[entV k t u p] w fun e w' => e = .returned (.bool (decide (p = 0))) ∧ Below w.heap.size w w' := by
  go_enter Try.func192, Try.ntmps192
  go_wp2_with fail
  go_ret
  exact ⟨ret_bool (by first | rfl | (simp; done) | (simp; omega) | (rw [Bool.eq_iff_iff]; simp; done) | (rw [Bool.eq_iff_iff]; simp; omega)), below_a _⟩

/-- an entry as one of its kind -/
def kindV (k t u p : Int) : Value := if k = 1 then .iface 158 (entV k t u p) else if k = 2 then .iface 159 (entV k t u p) else if k = 3 then .iface 160 (entV k t u p) else .nilIface

set_option maxHeartbeats 400000 in
theorem c166 (k t u p : Int) (w : World) : Calls Try.prog 166 #[entV k t u p] w fun e w' => e = .returned (kindV k t u p) ∧ Below w.heap.size w w' := by
  by_cases h1 : k = 1
  · subst h1
    go_enter Try.func166, Try.ntmps166
    go_wp2_with fail
    go_ret
    exact ⟨rfl, below_a _⟩
  by_cases h2 : k = 2
  · subst h2
    go_enter Try.func166, Try.ntmps166
    go_wp2_with fail
    go_ret
    exact ⟨rfl, below_a _⟩
  by_cases h3 : k = 3
  · subst h3
    go_enter Try.func166, Try.ntmps166
    go_wp2_with fail
    go_ret
    exact ⟨rfl, below_a _⟩
  · have b1 : (k == 1) = false := by simpa using h1
    have b2 : (k == 2) = false := by simpa using h2
    have b3 : (k == 3) = false := by simpa using h3
    have HK : Hid (kindV k t u p = .nilIface) := by unfold Hid kindV; rw [if_neg h1, if_neg h2, if_neg h3]
    clear h1 h2 h3
    go_enter Try.func166, Try.ntmps166
    go_wp2_with fail
    go_ret
    exact ⟨by rw [HK.out]; rfl, below_a _⟩

set_option maxHeartbeats 400000 in
theorem c92 (k t u p : Int) (w : World) : Calls Try.prog 92 #[entV k t u p] w fun e w' => e = .returned (entV k t u p) ∧ Below w.heap.size w w' := by
  go_enter Try.func92, Try.ntmps92
  go_wp2_with fail
  exact bodyPost_ret (v := entV k t u p) (by simp [results, Try.results92, go_sem]) rfl ⟨rfl, below_al (below_al (below_a _))⟩
theorem kind1 (t u p : Int) (w : World) : Calls Try.prog 166 #[entV 1 t u p] w fun e w' => e = .returned (.iface 158 (entV 1 t u p)) ∧ Below w.heap.size w w' := c166 1 t u p w
theorem kind2 (t u p : Int) (w : World) : Calls Try.prog 166 #[entV 2 t u p] w fun e w' => e = .returned (.iface 159 (entV 2 t u p)) ∧ Below w.heap.size w w' := c166 2 t u p w
theorem kind3 (t u p : Int) (w : World) : Calls Try.prog 166 #[entV 3 t u p] w fun e w' => e = .returned (.iface 160 (entV 3 t u p)) ∧ Below w.heap.size w w' := c166 3 t u p w
theorem kind0 (k t u p : Int) (w : World) (h : k ≠ 1 ∧ k ≠ 2 ∧ k ≠ 3) : Calls Try.prog 166 #[entV k t u p] w fun e w' => e = .returned .nilIface ∧ Below w.heap.size w w' := by
  have h1 : kindV k t u p = .nilIface := by unfold kindV; rw [if_neg h.1, if_neg h.2.1, if_neg h.2.2]
  have h2 := c166 k t u p w
  rw [h1] at h2
  exact h2
end Go.Proofs.Ytjdnengmllamcaa
