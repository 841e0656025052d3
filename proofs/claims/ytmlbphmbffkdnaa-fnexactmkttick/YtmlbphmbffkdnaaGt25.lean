/-
  Texts of the proof, what it needs of them: Dre.
-/
import Derived.Test.YtmlbphmbffkdnaaGt19
import Derived.Test.YtmlbphmbffkdnaaGt24
namespace Go.Proofs.Ytmlbphmbffkdnaa
open Go.RowKit
set_option linter.unusedVariables false
set_option maxRecDepth 100000

theorem box_put {w : World} {g : Nat} {vs : List Value} (h : Box w g vs) (i : Nat) (v : Value) (hi : i < vs.length) : Box (w.setCell ⟨g, i, none⟩ v) g (vs.set i v) := by
  intro j u hu
  by_cases e : j = i
  · subst e
    rw [List.getElem?_set_self hi] at hu
    cases hu
    have hx : vs[j]? = some vs[j] := List.getElem?_eq_getElem hi
    refine ⟨World.cell?_setCell_same _ _ _ (h j _ hx).1, ?_⟩
    rw [World.frozen?_setCell]
    exact (h j _ hx).2
  · rw [List.getElem?_set_ne (Ne.symm e)] at hu
    refine ⟨?_, ?_⟩
    · rw [World.cell?_setCell_other _ _ _ _ (by intro e2; cases e2; exact e rfl)]
      exact (h j u hu).1
    · rw [World.frozen?_setCell]
      exact (h j u hu).2
theorem grown_cel (w : World) (g i : Nat) (v : Value) : w.grownBy (w.setCell ⟨g, i, none⟩ v) (some g) := by
  refine ⟨rfl, rfl, rfl, by simp, fun k hk hne => ?_⟩
  have hgk : g ≠ k := fun e => hne (by rw [e])
  show (w.heap.modify g _)[k]? = _
  rw [Array.getElem?_modify, if_neg hgk]
/-- while an entry is drawn: the reader, the answer's block, the entry's block -/
def EntS (w W : World) (r k g1 : Nat) (a t u p : Int) : Prop :=
  Rd W r k ∧ w.grownBy W (some r) ∧ Box W w.heap.size [.int .i64 0, .int .i64 0, .int .i64 0, .int .i64 0] ∧ Box W g1 [.int .i64 a, .int .i64 t, .int .i64 u, .int .i64 p] ∧ w.heap.size < g1 ∧ FitsE a t u p
theorem EntS.step {w W W' : World} {r k k' g1 : Nat} {a t u p : Int} (h : EntS w W r k g1 a t u p) (hr : Rd W' r k') (hg : W.grownBy W' (some r)) (hrl : r < w.heap.size) : EntS w W' r k' g1 a t u p :=
  ⟨hr, grown_trans h.2.1 hg, h.2.2.1.kpt hg (fun e => by simp only [Option.some.injEq] at e; omega), h.2.2.2.1.kpt hg (fun e => by have := h.2.2.2.2.1; simp only [Option.some.injEq] at e; omega), h.2.2.2.2.1, h.2.2.2.2.2⟩
theorem EntS.put {w W : World} {r k g1 : Nat} {a t u p a' t' u' p' : Int} (h : EntS w W r k g1 a t u p) (i : Nat) (v : Value) (hi : i < 4) (hrl : r < w.heap.size) (he : [Value.int .i64 a, .int .i64 t, .int .i64 u, .int .i64 p].set i v = [.int .i64 a', .int .i64 t', .int .i64 u', .int .i64 p']) (hf : FitsE a' t' u' p') : EntS w (W.setCell ⟨g1, i, none⟩ v) r k g1 a' t' u' p' := by
  obtain ⟨h1, h2, h3, h4, h5, h6⟩ := h
  have hg := grown_cel W g1 i v
  refine ⟨h1.kept hg (fun b hb => by cases hb; omega), grown_new h2 hg (Nat.le_of_lt h5), h3.kpt hg (fun e => by simp only [Option.some.injEq] at e; omega), ?_, h5, hf⟩
  rw [← he]
  exact box_put h4 i v (by simpa using hi)
end Go.Proofs.Ytmlbphmbffkdnaa
