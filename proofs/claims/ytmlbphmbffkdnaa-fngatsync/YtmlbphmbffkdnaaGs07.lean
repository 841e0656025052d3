/-
  Texts of the proof, what it needs of them: Lste.
-/
import Derived.Test.YtmlbphmbffkdnaaGs03
import Derived.Test.YtmlbphmbffkdnaaGs06
namespace Go.Proofs.Ytmlbphmbffkdnaa
open Go.RowKit
set_option linter.unusedVariables false
set_option maxRecDepth 100000
theorem grow_trans {a b c : World} {row : Option Nat} (h : a.grownBy b row) (k : b.grownBy c row) : a.grownBy c row :=
  ⟨k.os.trans h.os, k.tape.trans h.tape, k.output.trans h.output, Nat.le_trans h.size k.size, fun i hi hr => (k.block i (Nat.lt_of_lt_of_le hi h.size) hr).trans (h.block i hi hr)⟩

/-- the mark of an element -/
def mkE (j : Nat) : Tm.Ent := (4 * (j : Int) + 1, 4 * (j : Int) + 2, 4 * (j : Int) + 3, 4 * (j : Int) + 4)
end Go.Proofs.Ytmlbphmbffkdnaa
namespace Go.Proofs.Ytmlbphmbffkdnaa
open Go.RowKit
set_option linter.unusedVariables false
set_option maxRecDepth 100000

/-- a row as a value -/
abbrev rowV (x0 x1 : Int) (x2 : Bool) : Value := .agg #[.int .i64 x0, .int .i64 x1, .bool x2]
theorem putR {tt : TypeId} {wr : World} {base g cap n : Nat} {ys : List Tm.Rw} {k : Nat} (hown : wr.ownsRow base tt 3 (.slice (some ⟨g, 0, none⟩) n cap) n (ys.flatMap rCells)) (hl : ys.length = n) (hk : k < n) (x0 x1 : Int) (x2 : Bool) :
    (((wr.setCell ⟨g, k * 3, none⟩ (.int .i64 x0)).setCell ⟨g, k * 3 + 1, none⟩ (.int .i64 x1)).setCell ⟨g, k * 3 + 2, none⟩ (.bool x2)).ownsRow base tt 3 (.slice (some ⟨g, 0, none⟩) n cap) n ((ys.set k (x0, x1, x2)).flatMap rCells) ∧ wr.grownBy (((wr.setCell ⟨g, k * 3, none⟩ (.int .i64 x0)).setCell ⟨g, k * 3 + 1, none⟩ (.int .i64 x1)).setCell ⟨g, k * 3 + 2, none⟩ (.bool x2)) (some g) ∧
    (∃ v, wr.cell? ⟨g, k * 3, none⟩ = some v) ∧ (∃ v, wr.cell? ⟨g, k * 3 + 1, none⟩ = some v) ∧ (∃ v, wr.cell? ⟨g, k * 3 + 2, none⟩ = some v) ∧  (∀ j, wr.frozen? ⟨g, j, none⟩ = false) := by
  have hlen : (ys.flatMap rCells).length = n * 3 := by rw [flat_len rCells 3 rCells_len, hl]
  have hc : ∀ i, i < 3 → ∃ v, wr.cell? ⟨g, k * 3 + i, none⟩ = some v := by
    intro i hi
    have h1 : k * 3 + i < n * 3 := by omega
    rw [hown.cellAt (k * 3 + i) h1]
    exact ⟨_, List.getElem?_eq_getElem (by rw [hlen]; exact h1)⟩

  have s0 := hown.stored (k * 3) (.int .i64 x0)
  have s1 := s0.1.stored (k * 3 + 1) (.int .i64 x1)
  have s2 := s1.1.stored (k * 3 + 2) (.bool x2)
  refine ⟨?_, grow_trans (grow_trans (s0.2) s1.2) s2.2, hc 0 (by decide), hc 1 (by decide), hc 2 (by decide),  fun j => hown.frozenAt j⟩
  have e := flat_set rCells 3 rCells_len ys k (x0, x1, x2) (by omega)
  rw [← e]
  exact s2.1

/-- the mark of an element -/
def mkR (j : Nat) : Tm.Rw := (3 * (j : Int) + 1, 3 * (j : Int) + 1 + 1, (3 * (j : Int) + 1 + 1 + 1) % 3 == 0)
end Go.Proofs.Ytmlbphmbffkdnaa
