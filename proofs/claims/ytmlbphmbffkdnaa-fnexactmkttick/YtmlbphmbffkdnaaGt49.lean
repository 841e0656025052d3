/-
  Texts of the proof, what it needs of them: Houh.
-/
import Derived.Test.YtmlbphmbffkdnaaGt15
namespace Go.Proofs.Ytmlbphmbffkdnaa
open Go.RowKit
set_option linter.unusedVariables false
set_option maxRecDepth 100000

theorem heldEg (h : House) (base cap : Nat) (ao : Option Addr) (w : World) (hz : h.es.length ≤ 1048576) (ho : w.ownsRow base 134 4 (.slice ao h.es.length cap) h.es.length (((List.range h.es.length).map (mkgE 1)).flatMap eCells)) :
    Calls Try.prog 168 #[.slice ao h.es.length cap, .int .i64 1] w fun e w' => e = .returned (.int .i64 ((hk1 h : Nat) : Int)) ∧ w' = w := by
  refine (c168g h.es.length 1 ao cap w hz (by decide) (owns_row eCells_len (by simp) ho)).mono ?_
  rintro e w1 ⟨rfl, rfl⟩
  exact ⟨by simp [hk1], rfl⟩
theorem heldDg (xs : List Tm.Deal) (base cap c : Nat) (ao : Option Addr) (w : World) (hz : xs.length ≤ 1048576) (hc : c ≤ 100000000) (ho : w.ownsRow base 42 5 (.slice ao xs.length cap) xs.length (((List.range xs.length).map (mkgD c)).flatMap dCells)) :
    Calls Try.prog 169 #[.slice ao xs.length cap, .int .i64 (c : Int)] w fun e w' => e = .returned (.int .i64 ((5 * xs.length + c : Nat) : Int)) ∧ w' = w := by
  refine (c169g xs.length c ao cap w hz hc (owns_row dCells_len (by simp) ho)).mono ?_
  rintro e w1 ⟨rfl, rfl⟩
  exact ⟨by simp, rfl⟩
theorem heldIg (xs : List Int) (base cap c : Nat) (ao : Option Addr) (w : World) (hz : xs.length ≤ 1048576) (hc : c ≤ 100000000) (ho : Own w base (.slice ao xs.length cap) (markedg c xs xs.length)) :
    Calls Try.prog 102 #[.slice ao xs.length cap, .int .i64 (c : Int)] w fun e w' => e = .returned (.int .i64 ((xs.length + c : Nat) : Int)) ∧ w' = w := by
  refine (c102g xs c ao xs.length cap w rfl hz hc (own_rowI ho)).mono ?_
  rintro e w1 ⟨rfl, rfl⟩
  exact ⟨by simp, rfl⟩

set_option maxHeartbeats 1600000 in
theorem heldH (h : House) (q : HP) (base : Nat) (w : World) (hs : Small h) (hq : HHld w base q h) :
    Calls Try.prog 86 #[hV q h, .int .i64 1] w fun e w' => e = .returned (.int .i64 ((hk5 h : Nat) : Int)) ∧ Below w.heap.size w w' := by
  have HS := hide hs
  have HQ := hide (hq.bel (below_a (.cells (hCs q h).toArray 28)))
  have n1 : ¬ (((hk1 h : Nat) : Int) < 0) := by omega
  have n2 : ¬ (((hk2 h : Nat) : Int) < 0) := by omega
  have n3 : ¬ (((hk3 h : Nat) : Int) < 0) := by omega
  have n4 : ¬ (((hk4 h : Nat) : Int) < 0) := by omega
  have n5 : ¬ (((hk5 h : Nat) : Int) < 0) := by omega
  clear hs hq
  go_enter Try.func86, Try.ntmps86
  go_wp2_with fail
  refine (heldEg h base _ _ _ (unhide HS).1 (unhide HQ).1).mono ?_
  rintro e w' ⟨rfl, rfl⟩
  go_wp2_with fail
  refine (heldIg h.pu base _ (hk1 h) _ _ (unhide HS).2.1 (by have hs := unhide HS; simp only [Small] at hs; simp only [hk1]; omega) (unhide HQ).2.1).mono ?_
  rintro e w' ⟨rfl, rfl⟩
  rw [show h.pu.length + hk1 h = hk2 h from rfl]
  go_wp2_with fail
  refine (heldDg h.ds base _ (hk2 h) _ _ (unhide HS).2.2.1 (by have hs := unhide HS; simp only [Small] at hs; simp only [hk2, hk1]; omega) (unhide HQ).2.2.1).mono ?_
  rintro e w' ⟨rfl, rfl⟩
  rw [show 5 * h.ds.length + hk2 h = hk3 h from rfl]
  go_wp2_with fail
  refine (heldIg h.nu base _ (hk3 h) _ _ (unhide HS).2.2.2.1 (by have hs := unhide HS; simp only [Small] at hs; simp only [hk3, hk2, hk1]; omega) (unhide HQ).2.2.2.1).mono ?_
  rintro e w' ⟨rfl, rfl⟩
  rw [show h.nu.length + hk3 h = hk4 h from rfl]
  go_wp2_with fail
  refine (heldIg h.sa base _ (hk4 h) _ _ (unhide HS).2.2.2.2 (by have hs := unhide HS; simp only [Small] at hs; simp only [hk4, hk3, hk2, hk1]; omega) (unhide HQ).2.2.2.2).mono ?_
  rintro e w' ⟨rfl, rfl⟩
  rw [show h.sa.length + hk4 h = hk5 h from rfl]
  go_wp2_with fail
  go_ret
  exact ⟨rfl, below_a _⟩
end Go.Proofs.Ytmlbphmbffkdnaa
