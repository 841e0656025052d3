/-
  Texts of the proof, what it needs of them: Opens.
-/
import Derived.Deep.Slices
import Derived.Lib.SmallJoins
import Derived.OpenShut
import Derived.ProofKit
import Derived.Test.YtmlbphmbffkdnaaGw09
namespace Go.Proofs.Ytmlbphmbffkdnaa
open Go.RowKit Go.ChangeShapes Go.WideShapes Go.ChangeAt
set_option linter.unusedVariables false
set_option maxRecDepth 100000

section
variable {H : Type} {enc : TypeId × Value → H} {w : World} {base : Nat} {spare : Nat → Bool} {held : Bool}

theorem ints3 {fuel : Nat} {cs : List Value} {x : DataW H × List MemPlace} (h : DataW.trod enc Try.prog w base spare held fuel 110 cs = some x) :
    ∃ r : Tm.Rw, cs = rCells r ∧ FitR r := by
  obtain ⟨y0, y1, y2, n, hx, hl, h0, h1, h2⟩ := Deep.trod_struct3 Try.underlying110 h
  have hC : Try.prog.cellsOf 110 = 3 := by kernel_rfl
  have hc3 : Try.prog.cellsOf 3 = 1 := by kernel_rfl
  have hc4 : Try.prog.cellsOf 4 = 1 := by kernel_rfl
  obtain ⟨c0, c1, c2, hc⟩ := Joins.array3 (cs := cs.toArray) (by simpa using hl.trans hC)
  have hcs : cs = [c0, c1, c2] := by have := congrArg Array.toList hc; simpa using this
  subst hcs
  simp [hc3, hc4] at h0 h1 h2
  obtain ⟨a0, e0, -, w0⟩ := DataW.trod_int Try.underlying3 h0
  obtain ⟨a1, e1, -, w1⟩ := DataW.trod_int Try.underlying3 h1
  obtain ⟨a2, e2, -⟩ := DataW.trod_bool Try.underlying4 h2
  simp at e0 e1 e2
  subst e0 e1 e2
  exact ⟨(a0, a1, a2), rfl, wf64 w0, wf64 w1⟩

theorem open_R {r : Reach} {b0 : Nat} {v : Value} {d : DataW H} {p : List MemPlace} (hv : Value.okWide Try.prog w r b0 110 v) (h : DataW.Trod enc Try.prog w base spare held 110 v d p) :
    ∃ k t u, v = rowV k t u ∧ FitR (k, t, u) := by
  obtain ⟨cs, rfl, hsz⟩ := okWide_struct Try.underlying110 hv
  obtain ⟨fuel, hf⟩ := h
  obtain ⟨⟨k, t, u⟩, he, hfit⟩ := ints3 (by simpa [Value.cells] using hf)
  refine ⟨k, t, u, ?_, hfit⟩
  have : cs = #[.int .i64 k, .int .i64 t, .bool u] := by
    apply Array.toList_inj.1
    exact he
  rw [this]

end
end Go.Proofs.Ytmlbphmbffkdnaa
