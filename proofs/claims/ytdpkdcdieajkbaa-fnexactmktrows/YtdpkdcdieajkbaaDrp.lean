/-
  The draw of purses.
-/
import Derived.Test.YtdpkdcdieajkbaaMona
namespace Go.Proofs.Ytdpkdcdieajkbaa
open Go.RowKit
set_option linter.unusedVariables false
set_option maxRecDepth 100000

/-- a number out of a list that is written out -/
theorem lit_val {w2 : World} {g : Nat} {l : List Int} {z : Int} (hl : ∀ j v, ((l.map (Value.int .i64)).toArray)[j]? = some v → w2.cell? ⟨g, j, none⟩ = some v) (hz : 0 ≤ z) (hz2 : z < l.length) :
    ∃ (j : Nat) (y : Int), z = (j : Int) ∧ j < l.length ∧ y ∈ l ∧ w2.cell? ⟨g, j, none⟩ = some (.int .i64 y) := by
  have hj : z.toNat < l.length := by omega
  refine ⟨z.toNat, l[z.toNat], by omega, hj, List.getElem_mem hj, hl _ _ ?_⟩
  simp [hj]
/-- what a draw of a list leaves that may be cut: it can be read, and lies in new memory -/
def Prs (w : World) (r k m : Nat) (e : Ending) (w' : World) : Prop :=
  ∃ (ao : Option Addr) (n cap : Nat) (zs : List Int), e = .returned (.slice ao n cap) ∧ zs.length = n ∧ n ≤ m ∧ n ≤ cap ∧ (ao = none → cap = 0) ∧ Row w' ao zs ∧ (∀ a, ao = some a → w.heap.size ≤ a.block) ∧ Rd w' r k ∧ w.grownBy w' (some r)
theorem prs_own {w w' : World} {r k m : Nat} {v : Value} {zs : List Int} (h : Own w' w.heap.size v zs) (hl : zs.length ≤ m) (hr : Rd w' r k) (hg : w.grownBy w' (some r)) : Prs w r k m (.returned v) w' := by
  obtain ⟨ao, cap, rfl, hc, hrow, hb⟩ := h.row
  refine ⟨ao, zs.length, cap, zs, rfl, rfl, hl, hc, ?_, hrow, fun a ha => (hb a ha).1, hr, hg⟩
  intro e; subst e; exact own_cap0 h

/-- what is written into new memory alone leaves all that was there but the reader -/
theorem grown_new {w w1 w2 : World} {r g : Nat} (h : w.grownBy w1 (some r)) (h2 : w1.grownBy w2 (some g)) (hg : w.heap.size ≤ g) : w.grownBy w2 (some r) :=
  ⟨h2.os.trans h.os, h2.tape.trans h.tape, h2.output.trans h.output, Nat.le_trans h.size h2.size, fun i hi hr => (h2.block i (Nat.lt_of_lt_of_le hi h.size) (fun e => by cases e; omega)).trans (h.block i hi hr)⟩

end Go.Proofs.Ytdpkdcdieajkbaa
