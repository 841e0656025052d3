/-
  Texts of the proof, what it needs of them: Growc.
-/
import Derived.Test.YtmlbphmbffkdnaaGreatGh20
import Derived.Test.YtmlbphmbffkdnaaGreatGh21
namespace Go.Proofs.YtmlbphmbffkdnaaGreat
open Go.RowKit
set_option linter.unusedVariables false

/-- One step down a proof of growth, whichever side it goes to. -/
theorem Tm.both_step {m n : Nat} (h1 : 1 ≤ m) (h2 : m < n) (h3 : n ≤ 40) : ∃ (c a : Nat) (lb : Bool), stepOf n ((m : Int) - 1) = .agg #[.int .i64 (c : Int), .int .i64 (a : Int), .bool lb] ∧ a + 1 ≤ c ∧ c < n ∧
    ∀ (old p : Int) (init : List Int) (al : Bool), Tm.both m n old (init ++ [p]) al = (Tm.both ((a : Int) + 1) c old init (al && lb)).map (fun x => (if lb = true then x.1 else Tm.pair p x.1, if lb = true then Tm.pair x.2 p else Tm.pair p x.2)) := by
  have hs := Tm.split_bd (n := (n : Int)) (by omega) (by omega)
  obtain ⟨s, hse⟩ := Int.eq_ofNat_of_zero_le (show 0 ≤ Tm.split n by omega)
  by_cases hi : (m : Int) ≤ Tm.split n
  · refine ⟨s, m - 1, true, ?_, by omega, by omega, fun old p init al => ?_⟩
    · unfold stepOf; rw [if_pos (by omega), hse]; rw [show ((m - 1 : Nat) : Int) = (m : Int) - 1 by omega]
    · rw [Tm.both_left (by omega) hi, hse, show ((m - 1 : Nat) : Int) + 1 = (m : Int) by omega, Bool.and_true]; rfl
  · refine ⟨n - s, m - 1 - s, false, ?_, by omega, by omega, fun old p init al => ?_⟩
    · unfold stepOf; rw [if_neg (by omega), hse]; rw [show ((n - s : Nat) : Int) = (n : Int) - (s : Int) by omega, show ((m - 1 - s : Nat) : Int) = (m : Int) - 1 - (s : Int) by omega]
    · rw [Tm.both_right (by omega) hi, hse, show ((m - 1 - s : Nat) : Int) + 1 = (m : Int) - (s : Int) by omega, show ((n - s : Nat) : Int) = (n : Int) - (s : Int) by omega, Bool.and_false]; rfl

end Go.Proofs.YtmlbphmbffkdnaaGreat
