/-
  Texts of the proof, what it needs of them: Drg, Drm.
-/
import Derived.Test.YtmlbphmbffkdnaaGreatGh12
import Derived.Test.YtmlbphmbffkdnaaGreatGh15
import Derived.Test.YtmlbphmbffkdnaaGreatGh17
namespace Go.Proofs.YtmlbphmbffkdnaaGreat
open Go.RowKit
set_option linter.unusedVariables false
set_option maxRecDepth 100000

theorem EOwn.kg {W W' : World} {base r : Nat} {v : Value} {es : List Tm.Ent} (h : EOwn W base v es) (hg : W.grownBy W' (some r)) (hr : r < base) : EOwn W' base v es :=
  h.kptG hg (fun b hb e => by have := (h.blk b hb).1; cases e; omega)
theorem ROwn.kg {W W' : World} {base r : Nat} {v : Value} {es : List Tm.Rw} (h : ROwn W base v es) (hg : W.grownBy W' (some r)) (hr : r < base) : ROwn W' base v es :=
  h.kptG hg (fun b hb e => by have := (h.blk b hb).1; cases e; omega)
theorem Own.kg {W W' : World} {base r : Nat} {v : Value} {es : List Int} (h : Own W base v es) (hg : W.grownBy W' (some r)) (hr : r < base) : Own W' base v es :=
  h.kpt hg (fun b hb e => by have := h.2.lt b hb; cases e; omega)
theorem Box.kg {W W' : World} {g r : Nat} {vs : List Value} (h : Box W g vs) (hg : W.grownBy W' (some r)) (hr : r ≠ g) : Box W' g vs :=
  h.kpt hg (fun e => by simp only [Option.some.injEq] at e; omega)
theorem Rd.bel {W W' : World} {r k : Nat} (h : Rd W r k) (hb : Below W.heap.size W W') : Rd W' r k := h.kept (below_grown0 hb none) (fun b hb => by cases hb)
theorem grown_bel {w W W' : World} {row : Option Nat} (h : w.grownBy W row) (hb : Below W.heap.size W W') : w.grownBy W' row := grown_trans h (below_grown0 hb _)
theorem below_gr {A W V : World} {r : Nat} (h : Below A.heap.size A W) (hg : W.grownBy V (some r)) (hr : A.heap.size ≤ r) : Below A.heap.size A V := h.grown hg h.size (fun k hk => by cases hk; exact hr)
/-- a cell of a block that the walk made is written -/
theorem Box.oth {W : World} {g g' i : Nat} {vs : List Value} (h : Box W g vs) (v : Value) (hr : g ≠ g') : Box (W.setCell ⟨g', i, none⟩ v) g vs :=
  h.kpt (grown_cel W g' i v) (fun e => by simp only [Option.some.injEq] at e; omega)
theorem Rd.oth {W : World} {r k g i : Nat} (h : Rd W r k) (v : Value) (hr : r < g) : Rd (W.setCell ⟨g, i, none⟩ v) r k := h.kept (grown_cel W g i v) (fun b hb => by cases hb; exact hr)
theorem grown_oth {w W : World} {r g i : Nat} (h : w.grownBy W (some r)) (v : Value) (hg : w.heap.size ≤ g) : w.grownBy (W.setCell ⟨g, i, none⟩ v) (some r) := grown_new h (grown_cel W g i v) hg
theorem Bytes.bel {w w' : World} {ao : Option Addr} {zs : List Int} (h : Bytes w ao zs) (hb : Below w.heap.size w w') : Bytes w' ao zs := by
  refine ⟨h.1, fun hne => ?_⟩
  obtain ⟨b, off, rfl, hcs⟩ := h.2 hne
  exact ⟨b, off, rfl, fun j hj => cell_bl hb (hcs j hj)⟩
theorem below_sc {A W : World} {p : Addr} {v : Value} (h : Below A.heap.size A W) (hg : A.heap.size ≤ p.block) : Below A.heap.size A (W.setCell p v) := h.setCell hg v
/-- numbers in memory, in no block below a base -/
def RowA (w : World) (base : Nat) (ao : Option Addr) (ps : List Int) : Prop := Row w ao ps ∧ ∀ a, ao = some a → base ≤ a.block
theorem RowA.bel {w w' : World} {base : Nat} {ao : Option Addr} {ps : List Int} (h : RowA w base ao ps) (hb : Below w.heap.size w w') : RowA w' base ao ps := ⟨h.1.bel hb, h.2⟩
theorem RowA.kg {w w' : World} {base r : Nat} {ao : Option Addr} {ps : List Int} (h : RowA w base ao ps) (hg : w.grownBy w' (some r)) (hr : r < base) : RowA w' base ao ps := ⟨h.1.kpt hg (fun a ha e => by have := h.2 a ha; simp only [Option.some.injEq] at e; omega), h.2⟩
theorem RowA.oth {w : World} {base g i : Nat} {ao : Option Addr} {ps : List Int} (h : RowA w base ao ps) (v : Value) (hr : g < base) : RowA (w.setCell ⟨g, i, none⟩ v) base ao ps := h.kg (grown_cel w g i v) hr
theorem RowA.drop {w : World} {base b off : Nat} {ps : List Int} (h : RowA w base (some ⟨b, off, none⟩) ps) (k : Nat) : RowA w base (some ⟨b, off + k, none⟩) (ps.drop k) := ⟨h.1.drop k, fun a ha => by cases ha; exact (show base ≤ b from h.2 ⟨b, off, none⟩ rfl)⟩
/-- nothing older than a world has been written since -/
def BelowOf (A W : World) : Prop := Below A.heap.size A W
theorem BelowOf.bel {A W W' : World} (h : BelowOf A W) (hb : Below W.heap.size W W') : BelowOf A W' := below_tr h hb
/-- what a draw of a head leaves -/
def HeadD (w : World) (r k : Nat) (e : Ending) (w' : World) : Prop :=
  ∃ s l o : Int, e = .returned (hedV s l o) ∧ Rd w' r k ∧ w.grownBy w' (some r)
end Go.Proofs.YtmlbphmbffkdnaaGreat
namespace Go.Proofs.YtmlbphmbffkdnaaGreat
open Go.RowKit
set_option linter.unusedVariables false
set_option maxRecDepth 100000

/-- numbers that are written out, in memory -/
def Lits (w : World) (g : Nat) (l : List Int) : Prop := ∀ (j : Nat) (v : Value), ((l.map (Value.int .i64)).toArray)[j]? = some v → w.cell? ⟨g, j, none⟩ = some v
theorem Lits.kept {w w' : World} {g r : Nat} {l : List Int} (h : Lits w g l) (hg : w.grownBy w' (some r)) (hne : r < g) : Lits w' g l := fun j v hv =>
  hg.cell (a := ⟨g, j, none⟩) (h j v hv) (fun e => by simp only [Option.some.injEq] at e; omega)
theorem lits_new (w : World) (l : List Int) : Lits (w.alloc (.cells (l.map (Value.int .i64)).toArray 3)) w.heap.size l := fun j v hv => by rw [World.cell?_alloc_new]; exact hv
theorem grown_drew (w : World) (row : Option Nat) : w.grownBy w.drew row := below_grown0 (below_drew w) row
theorem Row.keptR {w w' : World} {r : Nat} {ao : Option Addr} {zs : List Int} (h : Row w ao zs) (hg : w.grownBy w' (some r)) (hb : ∀ a, ao = some a → r < a.block) : Row w' ao zs :=
  h.kept hg (fun a ha e => by have := hb a ha; simp only [Option.some.injEq] at e; omega)
end Go.Proofs.YtmlbphmbffkdnaaGreat
