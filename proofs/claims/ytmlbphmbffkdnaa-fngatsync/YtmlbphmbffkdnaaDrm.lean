/-
  The draws of chapter 6: purses, somebody, how much.
-/
import Derived.Test.YtmlbphmbffkdnaaDrp
import Derived.Test.YtmlbphmbffkdnaaTkb
namespace Go.Proofs.Ytmlbphmbffkdnaa
open Go.RowKit
set_option linter.unusedVariables false
set_option maxRecDepth 100000

theorem results_tmp4x {fn : Func} {t u v x : Tmp} (h : fn.results = #[.tmp t, .tmp u, .tmp v, .tmp x]) (tmps : Array Value) (P : Program) (w : World) :
    (results fn tmps).run P w = .ok (.tuple #[tmps.getD t undef, tmps.getD u undef, tmps.getD v undef, tmps.getD x undef]) w := by
  simp [results, h]
/-- numbers that are written out, in memory -/
def Lits (w : World) (g : Nat) (l : List Int) : Prop := ∀ (j : Nat) (v : Value), ((l.map (Value.int .i64)).toArray)[j]? = some v → w.cell? ⟨g, j, none⟩ = some v
theorem Lits.kept {w w' : World} {g r : Nat} {l : List Int} (h : Lits w g l) (hg : w.grownBy w' (some r)) (hne : r < g) : Lits w' g l := fun j v hv =>
  hg.cell (a := ⟨g, j, none⟩) (h j v hv) (fun e => by simp only [Option.some.injEq] at e; omega)
theorem lits_new (w : World) (l : List Int) : Lits (w.alloc (.cells (l.map (Value.int .i64)).toArray 3)) w.heap.size l := fun j v hv => by rw [World.cell?_alloc_new]; exact hv
theorem grown_drew (w : World) (row : Option Nat) : w.grownBy w.drew row := below_grown0 (below_drew w) row
theorem Row.keptR {w w' : World} {r : Nat} {ao : Option Addr} {zs : List Int} (h : Row w ao zs) (hg : w.grownBy w' (some r)) (hb : ∀ a, ao = some a → r < a.block) : Row w' ao zs :=
  h.kept hg (fun a ha e => by have := hb a ha; simp only [Option.some.injEq] at e; omega)
/-- purses and what is drawn with them -/
def DrawnP (w : World) (e : Ending) (w' : World) (mk : Value → Value) : Prop :=
  ∃ (ao : Option Addr) (n cap : Nat) (zs : List Int), e = .returned (mk (.slice ao n cap)) ∧ zs.length = n ∧ n ≤ 6 ∧ n ≤ cap ∧ (ao = none → cap = 0) ∧ Row w' ao zs ∧ Below w.heap.size w w'

end Go.Proofs.Ytmlbphmbffkdnaa
