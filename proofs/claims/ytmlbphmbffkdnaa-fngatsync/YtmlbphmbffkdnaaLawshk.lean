/-
  The walk of the law FnHedFork: at every code it answers true, and nothing that was there is written.
-/
import Derived.Test.YtmlbphmbffkdnaaDhf
import Derived.Test.YtmlbphmbffkdnaaHedb
namespace Go.Proofs.Ytmlbphmbffkdnaa
open Go.RowKit
set_option linter.unusedVariables false
set_option maxRecDepth 100000

theorem at_true {es : List Tm.Ent} {i : Int} (h : aI es i = true) : aS es i = i ∧ ∃ k : Nat, k ≤ es.length ∧ i = (k : Int) ∧ foldIs (es.take k) = true := by
  by_cases hin : 0 ≤ i ∧ i ≤ (es.length : Int)
  · obtain ⟨h1, h2⟩ := hin
    obtain ⟨k, rfl⟩ := Int.eq_ofNat_of_zero_le h1
    obtain ⟨f0, f1, f2, f3⟩ := at_yes (es := es) (k := k) (by omega)
    rw [f3] at h
    refine ⟨?_, k, by omega, rfl, h⟩
    rw [f0, (hed_yes h).1, List.length_take]
    omega
  · rw [(at_no hin).2.2.2] at h; cases h
theorem fork_self (a b c : Int) : hedFork a b c a b c = false := by unfold hedFork; simp
theorem fork_sym (a b c a' b' c' : Int) : hedFork a b c a' b' c' = hedFork a' b' c' a b c := by
  unfold hedFork
  have e1 : decide (a = a') = decide (a' = a) := by rw [Bool.eq_iff_iff]; simp only [decide_eq_true_eq]; exact ⟨fun h => h.symm, fun h => h.symm⟩
  have e2 : decide ((a, b, c) = (a', b', c')) = decide ((a', b', c') = (a, b, c)) := by rw [Bool.eq_iff_iff]; simp only [decide_eq_true_eq]; exact ⟨fun h => h.symm, fun h => h.symm⟩
  rw [e1, e2]
  cases hedOk a b c <;> cases hedOk a' b' c' <;> rfl
theorem no_fork_at {es : List Tm.Ent} {i j : Int} (h1 : aI es i = true) (h2 : aI es j = true) : hedFork (aS es i) (aL es i) (aO es i) (aS es j) (aL es j) (aO es j) = false := by
  by_cases e : i = j
  · subst e; exact fork_self _ _ _
  · exact fork_3 (by rw [(at_true h1).1, (at_true h2).1]; exact e)

end Go.Proofs.Ytmlbphmbffkdnaa
