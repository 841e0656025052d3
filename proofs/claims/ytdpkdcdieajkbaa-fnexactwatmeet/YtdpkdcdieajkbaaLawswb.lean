/-
  What the exact laws over lists of heads lean on.
-/
import Derived.Test.YtdpkdcdieajkbaaLsth
import Derived.Test.YtdpkdcdieajkbaaOpens
import Derived.Test.YtdpkdcdieajkbaaLawsha
namespace Go.Proofs.Ytdpkdcdieajkbaa
open Go.RowKit
set_option linter.unusedVariables false
set_option maxRecDepth 100000

open Go.ChangeShapes Go.WideShapes Go.ChangeAt
section
variable {H : Type} {enc : TypeId × Value → H} {w : World} {base : Nat} {spare : Nat → Bool} {held : Bool}
theorem ints3W {fuel : Nat} {cs : List Value} {x : DataW H × List MemPlace} (h : DataW.trod enc Try.prog w base spare held fuel 80 cs = some x) :
    ∃ r : Tm.Hed, cs = wCells r ∧ FitW r := by
  obtain ⟨y0, y1, y2, n, hx, hl, h0, h1, h2⟩ := Deep.trod_struct3 Try.underlying80 h
  have hC : Try.prog.cellsOf 80 = 3 := by kernel_rfl
  have hc3 : Try.prog.cellsOf 3 = 1 := by kernel_rfl
  obtain ⟨c0, c1, c2, hc⟩ := Joins.array3 (cs := cs.toArray) (by simpa using hl.trans hC)
  have hcs : cs = [c0, c1, c2] := by have := congrArg Array.toList hc; simpa using this
  subst hcs
  simp [hc3] at h0 h1 h2
  obtain ⟨a0, e0, -, w0⟩ := DataW.trod_int Try.underlying3 h0
  obtain ⟨a1, e1, -, w1⟩ := DataW.trod_int Try.underlying3 h1
  obtain ⟨a2, e2, -, w2⟩ := DataW.trod_int Try.underlying3 h2
  simp at e0 e1 e2
  subst e0 e1 e2
  exact ⟨(a0, a1, a2), rfl, trivial⟩
theorem open_WS {a : Option Addr} {len cap : Nat} {d : DataW H} {p : List MemPlace} (h : DataW.Trod enc Try.prog w base spare held 76 (.slice a len cap) d p) :
    ∃ es : List Tm.Hed, es.length = len ∧ len ≤ cap ∧ cap ≤ maxLen ∧ WRow w a es := by
  obtain ⟨fuel, hf⟩ := h
  have hC : Try.prog.cellsOf 80 = 3 := by kernel_rfl
  rcases Deep.open_slice Try.underlying76 (by simpa [Value.cells] using hf) with ⟨hcs, -⟩ | ⟨x, l, c, m, n, D, Pl, hcs, -, hl, hm, hmm, -, hx⟩
  · simp at hcs
    obtain ⟨rfl, rfl, rfl⟩ := hcs
    exact ⟨[], rfl, Nat.le_refl _, by unfold maxLen; omega, fun e he => by simp at he, fun h => absurd rfl h⟩
  · simp at hcs
    obtain ⟨rfl, rfl, rfl⟩ := hcs
    rw [hC] at hx
    have hlm : len ≤ m := by rw [hmm]; split <;> omega
    obtain ⟨es, h1, h2, h3⟩ := gather wCells_len (by decide) FitW x len base (fun i hi => by
      obtain ⟨cs', q1, q2⟩ := hx i (by omega)
      obtain ⟨e, q3, q4⟩ := ints3W q2
      exact ⟨cs', q1, e, q3, q4⟩)
    exact ⟨es, h1, hl, hm, h2, h3⟩
end
theorem c61 (ao : Option Addr) (n cap : Nat) (w : World) (hn : n ≤ 9223372036854775807) : Calls Try.prog 61 #[.slice ao n cap, .int .i64 1048576] w fun e w' => e = .returned (.int .i64 (if n ≤ 1048576 then 1048576 - (n : Int) else -1)) ∧ w' = w := sgW ao n cap 1048576 w (Nat.le_refl _) hn
theorem sameW (xs : List Tm.Hed) (ao bo : Option Addr) (n cap cap' : Nat) (w : World) (hn : xs.length = n) (h1 : n ≤ 1048576) (hr : WRow w ao xs) (hs : WRow w bo xs) :
    Calls Try.prog 63 #[.slice ao n cap, .slice bo n cap'] w fun e w' => e = .returned (.bool true) ∧ Below w.heap.size w w' := by
  refine (c63 xs xs ao bo n cap n cap' w hn hn (by omega) (by omega) hr hs).mono ?_
  rintro e w1 ⟨rfl, hb⟩
  exact ⟨by simp, hb⟩
end Go.Proofs.Ytdpkdcdieajkbaa
