/-
  The walks of chapter 4 at one entry: caps, what is ok, leaves.
-/
import Derived.Test.YtjdnengmllamcaaRowy
import Derived.Test.YtjdnengmllamcaaMathh
namespace Go.Proofs.Ytjdnengmllamcaa
open Go.RowKit
set_option linter.unusedVariables false

set_option maxHeartbeats 400000 in
theorem c46 (f : Int) (w : World) : Calls Try.prog 46 #[.int .i64 f] w fun e w' => e = .returned (.int .i64 (Tm.cap f)) ∧ w' = w := by
  by_cases h0 : 1 ≤ f ∧ f ≤ 50
  · have Hf : Hid (Tm.cap f = f + f / 5) := Tm.cap_of h0
    obtain ⟨h1, h2⟩ := h0
    have d1 : decide (f < 1) = false := by simpa using h1
    go_enter Try.func46, Try.ntmps46
    go_wp2_with fail
    go_ret
    exact ⟨ret_int Hf.out.symm, rfl⟩
  · have Hf : Hid (Tm.cap f = 0) := Tm.cap_no h0
    by_cases h1 : f < 1
    · clear h0
      go_enter Try.func46, Try.ntmps46
      go_wp2_with fail
      go_ret
      exact ⟨ret_int Hf.out.symm, rfl⟩
    · have d1 : decide (f < 1) = false := by simpa using h1
      have h2 : 50 < f := by omega
      clear h0
      go_enter Try.func46, Try.ntmps46
      go_wp2_with fail
      go_ret
      exact ⟨ret_int Hf.out.symm, rfl⟩

set_option maxHeartbeats 400000 in
theorem c110 (f : Int) (w : World) : Calls Try.prog 110 #[.int .i64 f] w fun e w' => e = .returned (.int .i64 (Tm.cap f)) ∧ w' = w := by
  by_cases h0 : 1 ≤ f ∧ f ≤ 50
  · have Hf : Hid (Tm.cap f = f + f / 5) := Tm.cap_of h0
    obtain ⟨h1, h2⟩ := h0
    go_enter Try.func110, Try.ntmps110
    go_wp2_with (go_at_call 109; refine (c109 _ _ _ _).mono ?_; rintro e w' ⟨rfl, rfl⟩)
    go_ret
    exact ⟨ret_int Hf.out.symm, rfl⟩
  · have Hf : Hid (Tm.cap f = 0) := Tm.cap_no h0
    have hd : decide (1 ≤ f ∧ f ≤ 50) = false := by simpa using h0
    clear h0
    go_enter Try.func110, Try.ntmps110
    go_wp2_with (go_at_call 109; refine (c109 _ _ _ _).mono ?_; rintro e w' ⟨rfl, rfl⟩)
    go_ret
    exact ⟨ret_int Hf.out.symm, rfl⟩

set_option maxHeartbeats 400000 in
theorem c130 (t : Int) (w : World) : Calls Try.prog 130 #[.int .i64 t] w fun e w' => e = .returned (.bool (decide (0 ≤ t ∧ t ≤ 7))) ∧ w' = w := by
  by_cases h0 : 0 ≤ t
  · go_enter Try.func130, Try.ntmps130
    go_wp2_with fail
    go_ret
    exact ⟨ret_bool (by first | rfl | (simp; done) | (simp; omega) | (rw [Bool.eq_iff_iff]; simp; done) | (rw [Bool.eq_iff_iff]; simp; omega)), rfl⟩
  · have h1 : decide (0 ≤ t) = false := by simpa using h0
    go_enter Try.func130, Try.ntmps130
    go_wp2_with fail
    go_ret
    exact ⟨ret_bool (by first | rfl | (simp; done) | (simp; omega) | (rw [Bool.eq_iff_iff]; simp; done) | (rw [Bool.eq_iff_iff]; simp; omega)), rfl⟩
set_option maxHeartbeats 400000 in
theorem c143 (t : Int) (w : World) : Calls Try.prog 143 #[.int .i64 t] w fun e w' => e = .returned (.bool (decide (1 ≤ t ∧ t ≤ 5))) ∧ w' = w := by
  by_cases h0 : 1 ≤ t
  · go_enter Try.func143, Try.ntmps143
    go_wp2_with fail
    go_ret
    exact ⟨ret_bool (by first | rfl | (simp; done) | (simp; omega) | (rw [Bool.eq_iff_iff]; simp; done) | (rw [Bool.eq_iff_iff]; simp; omega)), rfl⟩
  · have h1 : decide (1 ≤ t) = false := by simpa using h0
    go_enter Try.func143, Try.ntmps143
    go_wp2_with fail
    go_ret
    exact ⟨ret_bool (by first | rfl | (simp; done) | (simp; omega) | (rw [Bool.eq_iff_iff]; simp; done) | (rw [Bool.eq_iff_iff]; simp; omega)), rfl⟩

/-- an entry as a value -/
abbrev entV (k t u p : Int) : Value := .agg #[.int .i64 k, .int .i64 t, .int .i64 u, .int .i64 p]
theorem below_a {w : World} (o : Obj) : Below w.heap.size w (w.alloc o) := (Below.refl _ _).alloc (Nat.le_refl _) _
theorem below_al {A W : World} {o : Obj} (h : Below A.heap.size A W) : Below A.heap.size A (W.alloc o) := h.alloc h.size _
theorem below_dn {A W : World} (h : Below A.heap.size A W) (n : Nat) : Below A.heap.size A (W.drewN n) := ⟨h.os, h.tape, h.output, h.size, h.block⟩
theorem below_tr {A W V : World} (h : Below A.heap.size A W) (k : Below W.heap.size W V) : Below A.heap.size A V := h.trans (k.mono h.size)

set_option maxHeartbeats 400000 in
theorem c190 (k t u p : Int) (w : World) : Calls Try.prog 190 #[entV k t u p] w fun e w' => e = .returned (.bool (decide (1 ≤ p ∧ p ≤ 50))) ∧ Below w.heap.size w w' := by
  by_cases h0 : 1 ≤ p
  · go_enter Try.func190, Try.ntmps190
    go_wp2_with fail
    go_ret
    exact ⟨ret_bool (by first | rfl | (simp; done) | (simp; omega) | (rw [Bool.eq_iff_iff]; simp; done) | (rw [Bool.eq_iff_iff]; simp; omega)), below_a _⟩
  · have h1 : decide (1 ≤ p) = false := by simpa using h0
    go_enter Try.func190, Try.ntmps190
    go_wp2_with fail
    go_ret
    exact ⟨ret_bool (by first | rfl | (simp; done) | (simp; omega) | (rw [Bool.eq_iff_iff]; simp; done) | (rw [Bool.eq_iff_iff]; simp; omega)), below_a _⟩
end Go.Proofs.Ytjdnengmllamcaa
