/-
  The walks of what a proof leads to, in the model: l2Up, TreUp, TreCheck.
  The walks of what a proof leads to, in the program: stepDown, pair, mix, leadUp, TreUp, TreCheck.
  The walks of TreUp and TreCheck of the program, and of their exact laws.
-/
import Derived.Deep.RegionHeld3
import Derived.Test.YtnppgfnlfdnkpaaDraw
import Derived.Test.YtnppgfnlfdnkpaaMath
namespace Go.Proofs.Ytnppgfnlfdnkpaa
open Go.RowKit

/-- the model's answer: the number is told only where there is one -/
def UpSpec (n i leaf : Int) (ps : List Int) (w : World) (e : Ending) (w' : World) : Prop :=
  ∃ x : Int, e = .returned (.tuple #[.int .i64 x, .bool (Tm.up n i leaf ps).isSome]) ∧ (∀ y, Tm.up n i leaf ps = some y → x = y) ∧ w' = w

theorem treUp_no {n i leaf : Int} {ps : List Int} (h : ¬ (1 ≤ n ∧ n ≤ 40 ∧ 0 ≤ i ∧ i < n ∧ Tm.okB leaf = true ∧ Tm.treOk ps = true)) : Tm.treUp n i leaf ps = none := by unfold Tm.treUp; rw [if_neg h]
theorem treUp_of {n i leaf : Int} {ps : List Int} (h : 1 ≤ n ∧ n ≤ 40 ∧ 0 ≤ i ∧ i < n ∧ Tm.okB leaf = true ∧ Tm.treOk ps = true) : Tm.treUp n i leaf ps = Tm.up n i leaf ps := by unfold Tm.treUp; rw [if_pos h]
theorem treOk_len {ps : List Int} (h : Tm.treOk ps = true) : ps.length ≤ 40 ∧ Tm.okAll ps = true := by
  unfold Tm.treOk at h; rw [Bool.and_eq_true, decide_eq_true_iff] at h; exact h

/-- TreUp's answer as Go tells it -/
def upVal (o : Option Int) : Value := .tuple #[.int .i64 (o.getD 0), .bool o.isSome]

end Go.Proofs.Ytnppgfnlfdnkpaa
namespace Go.Proofs.Ytnppgfnlfdnkpaa
open Go.RowKit

/-- the step into a part: how many it has, at which place, on which side -/
def stepOf (n i : Int) : Value := if i < Tm.split n then .agg #[.int .i64 (Tm.split n), .int .i64 i, .bool true] else .agg #[.int .i64 (n - Tm.split n), .int .i64 (i - Tm.split n), .bool false]

theorem Row.drew {w : World} {ao : Option Addr} {zs : List Int} (h : Row w ao zs) : Row w.drew ao zs := h.drewN 1
theorem cell_below {W w' : World} (h : Below W.heap.size W w') {p : Addr} {v : Value} (hc : W.cell? p = some v) : w'.cell? p = some v :=
  (h.cell (World.block_lt_of_cell? W p hc)).trans hc
theorem below_undrew {W w' : World} (h : Below W.drew.heap.size W.drew w') : Below W.heap.size W w' := ⟨h.os, h.tape, h.output, h.size, h.block⟩
theorem below_drew (W : World) : Below W.heap.size W W.drew := (Below.refl _ _).drew
theorem below_then {A W w' : World} (h : Below A.heap.size A W) (k : Below W.heap.size W w') : Below A.heap.size A w' := h.trans (k.mono h.size)
def LeadUp (n i leaf : Int) (ps : List Int) (w : World) (e : Ending) (w' : World) : Prop := e = .returned (.tuple #[.int .i64 ((Tm.up n i leaf ps).getD 0), .bool (Tm.up n i leaf ps).isSome]) ∧ Below w.heap.size w w'

end Go.Proofs.Ytnppgfnlfdnkpaa
namespace Go.Proofs.Ytnppgfnlfdnkpaa
open Go.RowKit
set_option linter.unusedVariables false

end Go.Proofs.Ytnppgfnlfdnkpaa
