/-
  The draws of a row, and of a ticket with how it stands.
-/
import Derived.Test.YtmlbphmbffkdnaaDre
import Derived.Test.YtmlbphmbffkdnaaDrm
namespace Go.Proofs.Ytmlbphmbffkdnaa
open Go.RowKit
set_option linter.unusedVariables false
set_option maxRecDepth 100000

/-- what a draw of a row leaves -/
def RowD (w : World) (r k : Nat) (e : Ending) (w' : World) : Prop :=
  ∃ (a c : Int) (d : Bool), e = .returned (rowV a c d) ∧ (-1 ≤ a ∧ a ≤ 5) ∧ c ∈ [0, 10, 50, 51, -1] ∧ Rd w' r k ∧ w.grownBy w' (some r)
theorem grown_three (w : World) (g : Nat) (a b c : Value) : w.grownBy (((w.setCell ⟨g, 0, none⟩ a).setCell ⟨g, 1, none⟩ b).setCell ⟨g, 2, none⟩ c) (some g) :=
  grown_trans (grown_trans (grown_cel _ _ _ _) (grown_cel _ _ _ _)) (grown_cel _ _ _ _)
/-- what was read of numbers that are written out is read of them wherever they lie so -/
theorem lit_any {w : World} {g j : Nat} {y : Int} {l : List Int} (h : w.cell? ⟨g, j, none⟩ = some (.int .i64 y)) (hl : Lits w g l) (hj : j < l.length) (W : World) (hW : Lits W g l) : W.cell? ⟨g, j, none⟩ = some (.int .i64 y) := by
  have e : ((l.map (Value.int .i64)).toArray)[j]? = some (.int .i64 l[j]) := by simp [hj]
  rw [hl j _ e] at h
  rw [hW j _ e]
  exact h

theorem lit_at {w : World} {g j : Nat} {l : List Int} (hl : Lits w g l) (hj : j < l.length) : ∃ y, y ∈ l ∧ ∀ W : World, Lits W g l → W.cell? ⟨g, j, none⟩ = some (.int .i64 y) :=
  ⟨l[j], List.getElem_mem hj, fun W hW => hW j _ (by simp [hj])⟩
theorem results_tc {fn : Func} {c d : Tmp} {t : TypeId} (h : fn.results = #[.tmp d, .cell c t]) {tmps : Array Value} {P : Program} {w : World} {a : Addr} {v : Value} (ha : tmps.getD c undef = .pointer (some a)) (hl : (Go.loadVar t a).run P w = .ok v w) :
    (results fn tmps).run P w = .ok (.tuple #[tmps.getD d undef, v]) w := by
  have ha' : tmps[c]?.getD undef = .pointer (some a) := by simpa using ha
  simp [results, h, asAddr, ha', hl]
/-- a ticket and how it stands, drawn -/
def LeafD (w : World) (e : Ending) (w' : World) : Prop :=
  ∃ (t a c : Int) (d : Bool), e = .returned (.tuple #[.int .i64 t, rowV a c d]) ∧ ((0 ≤ t ∧ t ≤ 7) ∨ t = -1 ∨ t = 8 ∨ t = 9223372036854775807) ∧ (-1 ≤ a ∧ a ≤ 5) ∧ c ∈ [0, 10, 50, 51, -1] ∧ Below w.heap.size w w'

end Go.Proofs.Ytmlbphmbffkdnaa
