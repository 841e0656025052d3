/-
  Small facts on proofs, for the laws that go by them.
-/
import Derived.Test.YtjdnengmllamcaaBesd
import Derived.Deep.RegionWith
namespace Go.Proofs.Ytjdnengmllamcaa
open Go.RowKit
set_option linter.unusedVariables false

theorem Told.row {w w' : World} {zs : List Int} {v : Value} (h : Own w' w.heap.size v zs) : ∃ ao cap, v = .slice ao zs.length cap ∧ zs.length ≤ cap ∧ Row w' ao zs := by
  obtain ⟨ao, cap, h1, h2, h3, _⟩ := h.row
  exact ⟨ao, cap, h1, h2, h3⟩
theorem treProof_len {zs : List Int} {i : Int} : (Tm.treProof zs i).length ≤ 6 := by
  unfold Tm.treProof
  split
  · rename_i h
    exact Tm.prf_len6 _ (treOk_len h.1).1
  · simp
theorem high_is {n h : Nat} {k : Int} (hk : (k = 1 ∧ h = 0) ∨ (k = 2 ∧ h = 1) ∨ (k = 4 ∧ h = 2) ∨ (k = 8 ∧ h = 3) ∨ (k = 16 ∧ h = 4) ∨ (k = 32 ∧ h = 5) ∨ (k = 64 ∧ h = 6)) (h0 : h = 0 ∨ k < 2 * (n : Int)) (hn : (n : Int) ≤ k) (h40 : n ≤ 40) : Tm.high n = h := by
  unfold Tm.high
  repeat' split
  all_goals omega
theorem check_prf {ys : List Int} {i : Nat} (hok : Tm.treOk ys = true) (hi : i < ys.length) : Tm.treCheck (Tm.treRoot ys) ys.length i (ys.getD i 0) (Tm.prf ys i) = true := by
  obtain ⟨t1, t2⟩ := treOk_len hok
  have h1 := Tm.up_prf _ ys i (Nat.le_refl _) t1 hi t2
  have h2 : Tm.treOk (Tm.prf ys i) = true := by
    unfold Tm.treOk
    rw [decide_eq_true (by have := Tm.prf_len6 (l := ys) i t1; omega), Tm.prf_ok _ ys i (Nat.le_refl _) t1 t2]; rfl
  unfold Tm.treCheck
  rw [treUp_of ⟨by omega, by omega, by omega, by omega, Tm.okAll_at t2 hi, h2⟩, h1, treRoot_of t1 t2]
  simp

end Go.Proofs.Ytjdnengmllamcaa
