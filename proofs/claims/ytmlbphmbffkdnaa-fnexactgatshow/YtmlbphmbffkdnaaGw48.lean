/-
  Texts of the proof, what it needs of them: Lawsgb.
-/
import Derived.Deep.Slices
import Derived.Lib.SmallJoins
import Derived.OpenShut
import Derived.ProofKit
import Derived.Test.YtmlbphmbffkdnaaGw34
namespace Go.Proofs.Ytmlbphmbffkdnaa
open Go.RowKit
set_option linter.unusedVariables false
set_option maxRecDepth 100000

open Go.ChangeShapes Go.WideShapes Go.ChangeAt
section
variable {H : Type} {enc : TypeId × Value → H} {w : World} {base : Nat} {spare : Nat → Bool} {held : Bool}
theorem ints3G {fuel : Nat} {cs : List Value} {x : DataW H × List MemPlace} (h : DataW.trod enc Try.prog w base (fun _ => true) held fuel 87 cs = some x) :
    ∃ a b c : Int, cs = [.int .i64 a, .int .i64 b, .int .i64 c] := by
  obtain ⟨y0, y1, y2, n, hx, hl, h0, h1, h2⟩ := Deep.trod_struct3 Try.underlying87 h
  have hC : Try.prog.cellsOf 87 = 3 := by kernel_rfl
  have hc3 : Try.prog.cellsOf 3 = 1 := by kernel_rfl
  obtain ⟨c0, c1, c2, hc⟩ := Joins.array3 (cs := cs.toArray) (by simpa using hl.trans hC)
  have hcs : cs = [c0, c1, c2] := by have := congrArg Array.toList hc; simpa using this
  subst hcs
  simp [hc3] at h0 h1 h2
  obtain ⟨a0, e0, -, w0⟩ := DataW.trod_int Try.underlying3 h0
  obtain ⟨a1, e1, -, w1⟩ := DataW.trod_int Try.underlying3 h1
  obtain ⟨a2, e2, -, w2⟩ := DataW.trod_int Try.underlying3 h2
  simp at e0 e1 e2
  subst e0 e1 e2
  exact ⟨a0, a1, a2, rfl⟩
theorem ints_G {fuel : Nat} {cs : List Value} {x : DataW H × List MemPlace} (h : DataW.trod enc Try.prog w base (fun _ => true) held fuel 102 cs = some x) :
    ∃ (a b c : Int) (ao : Option Addr) (len cap : Nat) (zs : List Int), cs = [.int .i64 a, .int .i64 b, .int .i64 c, .slice ao len cap] ∧ IsRow .i64 w ao len cap zs := by
  obtain ⟨xs, n, _, hx, hl, hlen, hfld⟩ := DataW.trod_struct Try.underlying102 h
  have hC : Try.prog.cellsOf 102 = 4 := by kernel_rfl
  have hcH : Try.prog.cellsOf 87 = 3 := by kernel_rfl
  have hcI : Try.prog.cellsOf 23 = 1 := by kernel_rfl
  rw [hC] at hl
  match xs, hlen with
  | [y0, y1], _ =>
    have h0 := hfld 0 _ rfl
    have h1 := hfld 1 _ rfl
    match cs, hl with
    | [c0, c1, c2, c3], _ =>
      simp [hcH, hcI] at h0 h1
      obtain ⟨a, b, c, e⟩ := ints3G h0
      simp at e
      obtain ⟨rfl, rfl, rfl⟩ := e
      rcases open_ints Try.underlying23 Try.underlying3 (by kernel_rfl) h1 with ⟨hcs, _⟩ | ⟨x, len, cp, zs, hcs, _, hl2, hm, hz, _, hcell, hwz⟩
      · simp at hcs
        subst hcs
        exact ⟨a, b, c, none, 0, 0, [], rfl, .inl ⟨rfl, rfl, rfl, rfl⟩⟩
      · simp at hcs
        subst hcs
        exact ⟨a, b, c, some x, len, cp, zs, rfl, .inr ⟨_, rfl, hl2, hm, by simpa using hz, hcell, hwz⟩⟩
theorem open_G {r : Reach} {b0 : Nat} {v : Value} {d : DataW H} {p : List MemPlace} (hv : Value.okWide Try.prog w r b0 102 v) (h : DataW.Trod enc Try.prog w base (fun _ => true) held 102 v d p) :
    ∃ (s l o : Int) (ao : Option Addr) (len cap : Nat) (zs : List Int), v = gatV s l o (.slice ao len cap) ∧ IsRow .i64 w ao len cap zs := by
  obtain ⟨cs, rfl, hsz⟩ := okWide_struct Try.underlying102 hv
  obtain ⟨fuel, hf⟩ := h
  obtain ⟨a, b, c, ao, len, cap, zs, he, hr⟩ := ints_G (by simpa [Value.cells] using hf)
  refine ⟨a, b, c, ao, len, cap, zs, ?_, hr⟩
  have : cs = #[.int .i64 a, .int .i64 b, .int .i64 c, .slice ao len cap] := by
    apply Array.toList_inj.1
    exact he
  rw [this]
end
end Go.Proofs.Ytmlbphmbffkdnaa
