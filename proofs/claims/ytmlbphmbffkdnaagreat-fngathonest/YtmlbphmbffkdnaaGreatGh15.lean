/-
  Texts of the proof, what it needs of them: Hbas, Heda, Drp.
-/
import Derived.Laws.StructEq
import Derived.Test.YtmlbphmbffkdnaaGreatGh13
import Derived.Test.YtmlbphmbffkdnaaGreatGh14
import Derived.WideKeyRuns
namespace Go.Proofs.YtmlbphmbffkdnaaGreat
open Go.RowKit
set_option linter.unusedVariables false
set_option maxRecDepth 100000

theorem Box.bel {W w : World} {g : Nat} {vs : List Value} (h : Box W g vs) (hb : Below W.heap.size W w) : Box w g vs := h.below hb
theorem dnB {P : Program} {f : FuncId} {ar : Array Value} {w : World} {A : Ending → Prop} (h : Calls P f ar w fun e w' => A e ∧ ∃ q, w' = w.drewN q) : Calls P f ar w fun e w' => A e ∧ Below w.heap.size w w' :=
  h.mono fun e w' h2 => ⟨h2.1, by obtain ⟨q, rfl⟩ := h2.2; exact below_dn (Below.refl _ _) q⟩
end Go.Proofs.YtmlbphmbffkdnaaGreat
namespace Go.Proofs.YtmlbphmbffkdnaaGreat
open Go.RowKit
set_option linter.unusedVariables false
set_option maxRecDepth 100000

/-- a head as a value -/
abbrev hedV (s l o : Int) : Value := .agg #[.int .i64 s, .int .i64 l, .int .i64 o]
/-- a head is ok -/
def hedOk (s l o : Int) : Bool := decide (0 ≤ s ∧ s ≤ 40) && (Tm.okB l && Tm.okB o)

set_option maxHeartbeats 800000 in
theorem c49 (s l o : Int) (w : World) : Calls Tryz.prog 49 #[hedV s l o] w fun e w' => e = .returned (.bool (hedOk s l o)) ∧ Below w.heap.size w w' := by
  by_cases h1 : 0 ≤ s ∧ s ≤ 40
  · have d1 : decide (0 ≤ s ∧ s ≤ 40) = true := decide_eq_true h1
    rcases h2 : Tm.okB l with _ | _
    · have HU : Hid (hedOk s l o = false) := by unfold Hid hedOk; rw [h2]; simp
      clear h1
      go_enter Tryz.func49, Tryz.ntmps49
      go_wp2_with (first | (go_at_call 83; refine (c83 _ _ _ _).mono ?_; rintro e w' ⟨rfl, rfl⟩) | (go_at_call 46; refine (c46 _ _).mono ?_; rintro e w' ⟨rfl, rfl⟩))
      go_ret
      exact ⟨ret_bool (unhide HU).symm, below_a _⟩
    · have HU : Hid (hedOk s l o = Tm.okB o) := by unfold Hid hedOk; rw [h2, d1]; simp
      clear h1
      go_enter Tryz.func49, Tryz.ntmps49
      go_wp2_with (first | (go_at_call 83; refine (c83 _ _ _ _).mono ?_; rintro e w' ⟨rfl, rfl⟩) | (go_at_call 46; refine (c46 _ _).mono ?_; rintro e w' ⟨rfl, rfl⟩))
      go_ret
      exact ⟨ret_bool (unhide HU).symm, below_a _⟩
  · have d1 : decide (0 ≤ s ∧ s ≤ 40) = false := decide_eq_false h1
    have HU : Hid (hedOk s l o = false) := by unfold Hid hedOk; rw [d1]; simp
    clear h1
    go_enter Tryz.func49, Tryz.ntmps49
    go_wp2_with (first | (go_at_call 83; refine (c83 _ _ _ _).mono ?_; rintro e w' ⟨rfl, rfl⟩) | (go_at_call 46; refine (c46 _ _).mono ?_; rintro e w' ⟨rfl, rfl⟩))
    go_ret
    exact ⟨ret_bool (unhide HU).symm, below_a _⟩

set_option maxHeartbeats 800000 in
theorem c45 (s l o : Int) (w : World) : Calls Tryz.prog 45 #[hedV s l o] w fun e w' => e = .returned (.bool (hedOk s l o)) ∧ Below w.heap.size w w' := by
  by_cases h1 : 0 ≤ s ∧ s ≤ 40
  · have d1 : decide (0 ≤ s ∧ s ≤ 40) = true := decide_eq_true h1
    rcases h2 : Tm.okB l with _ | _
    · have HU : Hid (hedOk s l o = false) := by unfold Hid hedOk; rw [h2]; simp
      clear h1
      go_enter Tryz.func45, Tryz.ntmps45
      go_wp2_with (first | (go_at_call 40; refine (c40 _ _ _ _).mono ?_; rintro e w' ⟨rfl, rfl⟩) | (go_at_call 81; refine (c81 _ _).mono ?_; rintro e w' ⟨rfl, rfl⟩))
      go_ret
      exact ⟨ret_bool (unhide HU).symm, below_a _⟩
    · have HU : Hid (hedOk s l o = Tm.okB o) := by unfold Hid hedOk; rw [h2, d1]; simp
      clear h1
      go_enter Tryz.func45, Tryz.ntmps45
      go_wp2_with (first | (go_at_call 40; refine (c40 _ _ _ _).mono ?_; rintro e w' ⟨rfl, rfl⟩) | (go_at_call 81; refine (c81 _ _).mono ?_; rintro e w' ⟨rfl, rfl⟩))
      go_ret
      exact ⟨ret_bool (unhide HU).symm, below_a _⟩
  · have d1 : decide (0 ≤ s ∧ s ≤ 40) = false := decide_eq_false h1
    have HU : Hid (hedOk s l o = false) := by unfold Hid hedOk; rw [d1]; simp
    clear h1
    go_enter Tryz.func45, Tryz.ntmps45
    go_wp2_with (first | (go_at_call 40; refine (c40 _ _ _ _).mono ?_; rintro e w' ⟨rfl, rfl⟩) | (go_at_call 81; refine (c81 _ _).mono ?_; rintro e w' ⟨rfl, rfl⟩))
    go_ret
    exact ⟨ret_bool (unhide HU).symm, below_a _⟩

end Go.Proofs.YtmlbphmbffkdnaaGreat
namespace Go.Proofs.YtmlbphmbffkdnaaGreat
open Go.RowKit
set_option linter.unusedVariables false
set_option maxRecDepth 100000

/-- a number out of a list that is written out -/
theorem lit_val {w2 : World} {g : Nat} {l : List Int} {z : Int} (hl : ∀ j v, ((l.map (Value.int .i64)).toArray)[j]? = some v → w2.cell? ⟨g, j, none⟩ = some v) (hz : 0 ≤ z) (hz2 : z < l.length) :
    ∃ (j : Nat) (y : Int), z = (j : Int) ∧ j < l.length ∧ y ∈ l ∧ w2.cell? ⟨g, j, none⟩ = some (.int .i64 y) := by
  have hj : z.toNat < l.length := by omega
  refine ⟨z.toNat, l[z.toNat], by omega, hj, List.getElem_mem hj, hl _ _ ?_⟩
  simp [hj]
/-- what is written into new memory alone leaves all that was there but the reader -/
theorem grown_new {w w1 w2 : World} {r g : Nat} (h : w.grownBy w1 (some r)) (h2 : w1.grownBy w2 (some g)) (hg : w.heap.size ≤ g) : w.grownBy w2 (some r) :=
  ⟨h2.os.trans h.os, h2.tape.trans h.tape, h2.output.trans h.output, Nat.le_trans h.size h2.size, fun i hi hr => (h2.block i (Nat.lt_of_lt_of_le hi h.size) (fun e => by cases e; omega)).trans (h.block i hi hr)⟩

end Go.Proofs.YtmlbphmbffkdnaaGreat
