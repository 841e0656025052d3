/-
  The walks of the model's draw of a forged proof: l20Inv, l20Left, l20Forge.
-/
import Derived.Test.YtimaidcjccakeaaLawsH
import Derived.Test.YtimaidcjccakeaaSide
namespace Go.Proofs.Ytimaidcjccakeaa
open Go.RowKit
set_option linter.unusedVariables false

theorem mulmod {a b : Int} (ha : 0 ≤ a ∧ a < 65521) (hb : 0 ≤ b ∧ b < 65521) : 0 ≤ a * b ∧ a * b ≤ 4292870400 := Tm.mul_bd ha hb

def SomeBool (w : World) (e : Ending) (w' : World) : Prop := ∃ b : Bool, e = .returned (.bool b) ∧ w' = w

/-- what a forged proof is: a leaf's number, and a list of the call's own, as long as the proof was -/
def Forged (w : World) (m : Nat) (e : Ending) (w' : World) : Prop :=
  ∃ (x : Int) (v : Value) (qs : List Int), e = .returned (.tuple #[.int .i64 x, v]) ∧ (0 ≤ x ∧ x < 65521) ∧ Own w' w.heap.size v qs ∧ qs.length = m ∧ Below w.heap.size w w'

theorem fits_tmod (s : Int) : -9223372036854775808 ≤ s.tmod 65521 ∧ s.tmod 65521 ≤ 9223372036854775807 := by have := tmod_bd s; omega

theorem own_setF {W : World} {base g n cap : Nat} {ps : List Int} (h : Own W base (.slice (some ⟨g, 0, none⟩) n cap) ps) (hn : ps.length = n) (k : Nat) (s : Int) (hs : -9223372036854775808 ≤ s ∧ s ≤ 9223372036854775807) :
    Own (W.setCell ⟨g, k, none⟩ (.int .i64 s)) base (.slice (some ⟨g, 0, none⟩) n cap) (ps.set k s) := by
  subst hn
  refine ⟨fun z hz => ?_, ?_⟩
  · rcases List.mem_or_eq_of_mem_set hz with h1 | h1
    · exact h.1 z h1
    · subst h1; exact hs
  · have := (h.2.stored k (.int .i64 s)).1
    rw [List.map_set]
    simpa using this

end Go.Proofs.Ytimaidcjccakeaa
