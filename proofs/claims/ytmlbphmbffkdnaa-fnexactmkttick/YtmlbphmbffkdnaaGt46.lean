/-
  Texts of the proof, what it needs of them: Opens.
-/
import Derived.Deep.Slices
import Derived.Lib.SmallJoins
import Derived.OpenShut
import Derived.ProofKit
import Derived.Test.YtmlbphmbffkdnaaGt09
namespace Go.Proofs.Ytmlbphmbffkdnaa
open Go.RowKit Go.ChangeShapes Go.WideShapes Go.ChangeAt
set_option linter.unusedVariables false
set_option maxRecDepth 100000

section
variable {H : Type} {enc : TypeId × Value → H} {w : World} {base : Nat} {spare : Nat → Bool} {held : Bool}

theorem ints4 {fuel : Nat} {cs : List Value} {x : DataW H × List MemPlace} (h : DataW.trod enc Try.prog w base spare held fuel 203 cs = some x) :
    ∃ e : Tm.Ent, cs = eCells e ∧ FitE e := by
  obtain ⟨y0, y1, y2, y3, n, hx, hl, h0, h1, h2, h3⟩ := Joins.trod_struct4 Try.underlying203 h
  have hC : Try.prog.cellsOf 203 = 4 := by kernel_rfl
  have hc3 : Try.prog.cellsOf 3 = 1 := by kernel_rfl
  obtain ⟨c0, c1, c2, c3, hc⟩ := Joins.array4 (cs := cs.toArray) (by simpa using hl.trans hC)
  have hcs : cs = [c0, c1, c2, c3] := by have := congrArg Array.toList hc; simpa using this
  subst hcs
  simp [hc3] at h0 h1 h2 h3
  obtain ⟨a0, e0, -, w0⟩ := DataW.trod_int Try.underlying3 h0
  obtain ⟨a1, e1, -, w1⟩ := DataW.trod_int Try.underlying3 h1
  obtain ⟨a2, e2, -, w2⟩ := DataW.trod_int Try.underlying3 h2
  obtain ⟨a3, e3, -, w3⟩ := DataW.trod_int Try.underlying3 h3
  simp at e0 e1 e2 e3
  subst e0 e1 e2 e3
  exact ⟨(a0, a1, a2, a3), rfl, wf64 w0, wf64 w1, wf64 w2, wf64 w3⟩
/-- a slice of elements of s cells, each of which is one of a kind, as a list -/
theorem gather {α : Type} {f : α → List Value} {s : Nat} (hs : ∀ x, (f x).length = s) (hp : 0 < s) (ok : α → Prop) (a : Addr) (len : Nat) (base : Nat)
    (h : ∀ i, i < len → ∃ cs', w.cells? base (a.add (i * s)) s = some cs' ∧ ∃ x, cs' = f x ∧ ok x) : ∃ xs : List α, xs.length = len ∧ (∀ x ∈ xs, ok x) ∧ Sl f w (some a) xs := by
  have key : ∀ n, n ≤ len → ∃ xs : List α, xs.length = n ∧ (∀ x ∈ xs, ok x) ∧ ∀ j v, (xs.flatMap f)[j]? = some v → w.cell? (a.add j) = some v := by
    intro n
    induction n with
    | zero => intro _; exact ⟨[], rfl, fun x hx => by simp at hx, fun j v hv => by simp at hv⟩
    | succ n ih =>
      intro hn
      obtain ⟨xs, h1, h2, h3⟩ := ih (by omega)
      obtain ⟨cs', hc, x, rfl, hx⟩ := h n (by omega)
      obtain ⟨-, -, hcell⟩ := World.cells?_some hc
      refine ⟨xs ++ [x], by simp [h1], fun y hy => ?_, fun j v hv => ?_⟩
      · rcases List.mem_append.1 hy with hy | hy
        · exact h2 y hy
        · simp at hy; subst hy; exact hx
      · rw [List.flatMap_append, List.flatMap_singleton] at hv
        have hl : (xs.flatMap f).length = n * s := by rw [flat_len f s hs, h1]
        by_cases hj : j < n * s
        · rw [List.getElem?_append_left (by omega)] at hv
          exact h3 j v hv
        · rw [List.getElem?_append_right (by omega), hl] at hv
          have hjs : j - n * s < s := by
            rcases Nat.lt_or_ge (j - n * s) s with h5 | h5
            · exact h5
            · rw [List.getElem?_eq_none (by rw [hs]; exact h5)] at hv; cases hv
          have := hcell (j - n * s) hjs
          rw [Deep.add_add, show n * s + (j - n * s) = j by omega] at this
          rw [this]; exact hv
  obtain ⟨xs, h1, h2, h3⟩ := key len (Nat.le_refl _)
  refine ⟨xs, h1, h2, fun hne => ?_⟩
  obtain ⟨b, off, spot⟩ := a
  have hspot : spot = none := by
    have hlen : 0 < xs.length := by cases xs; exact absurd rfl hne; simp
    have hfl : 0 < (xs.flatMap f).length := by rw [flat_len f s hs]; exact Nat.mul_pos hlen hp
    have := h3 0 _ (List.getElem?_eq_getElem hfl)
    simpa [Addr.add] using World.cell?_spot this
  subst hspot
  refine ⟨b, off, rfl, fun j v hv => ?_⟩
  have := h3 j v hv
  have e : (Addr.add ⟨b, off, none⟩ j) = ⟨b, off + j, none⟩ := by unfold Addr.add; split <;> simp_all
  rwa [e] at this

end
end Go.Proofs.Ytmlbphmbffkdnaa
